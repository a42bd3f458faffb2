"""The calls on two tables of pays, answered one behind another."""

# By its number each call: its name, how many whole numbers it has, how many
# of these (the first ones) tell a table, a place, an act and a next place,
# and whether a row comes behind them.
CALLS = (
    ("begin", 4, 0, False),
    ("set", 4, 4, True),
    ("fill", 1, 1, True),
    ("payis", 4, 4, False),
    ("copy", 1, 1, False),
    ("shape", 1, 1, True),
    ("scale", 2, 1, False),
    ("potof", 1, 1, False),
    ("least", 4, 4, False),
    ("leastrow", 3, 3, False),
    ("alike", 0, 0, False),
    ("potentials", 0, 0, False),
    ("factor", 0, 0, False),
    ("far", 0, 0, False),
    ("differ", 0, 0, False),
    ("path", 1, 1, True),
    ("gap", 0, 0, True),
    ("swap", 0, 0, False),
    ("ifset", 4, 4, True),
    ("trivial", 1, 1, False),
)

# The refusals, without the sign that they are answered with.
NO_SUCH = 2
NOT_BEGUN = 11
NOT_FIT = 22
TOO_MUCH = 75

MOST_IN_ROW = 1000
MOST_PAY = 100000
MOST_FACTOR = 100


def refused(number):
    return [-number]


def within(numbers, most):
    for number in numbers:
        if abs(number) > most:
            return False
    return True


def common_part(a, b):
    while b > 0:
        rest = a % b
        a = b
        b = rest
    return a


def fraction(upper, lower):
    """The two numbers of a fraction with nothing in common; lower is 1 or more."""
    common = common_part(abs(upper), lower)
    return [upper // common, lower // common]


class Tables:
    """The two tables, with their places, acts and counting.

    A list `where` tells a table, a place, an act and a next place, or the
    first few of these.
    """

    def __init__(self):
        # No places stands for: nothing has begun yet.
        self.places = 0
        self.acts = 0
        self.g = 0
        self.h = 0
        self.pays = []

    def begun(self):
        return self.places > 0

    def has(self, where):
        limits = [2, self.places, self.acts, self.places]
        for k in range(len(where)):
            if where[k] >= limits[k]:
                return False
        return True

    def spot(self, s, x, q):
        return (s * self.acts + x) * self.places + q

    def pay(self, t, s, x, q):
        return self.pays[t][self.spot(s, x, q)]

    def begin(self, n, m, g, h):
        if n < 2 or n > 4 or m < 1 or m > 3:
            return refused(NOT_FIT)
        if g < 1 or h <= g or h > 10:
            return refused(NOT_FIT)
        size = n * m * n
        self.places = n
        self.acts = m
        self.g = g
        self.h = h
        self.pays = [[0] * size, [0] * size]
        return [size]

    def set_pay(self, where, row):
        if len(row) != 1 or not within(row, MOST_IN_ROW):
            return refused(NOT_FIT)
        table = self.pays[where[0]]
        k = self.spot(where[1], where[2], where[3])
        was = table[k]
        table[k] = row[0]
        return [0, was]

    def fill(self, t, row):
        if len(row) != len(self.pays[t]) or not within(row, MOST_IN_ROW):
            return refused(NOT_FIT)
        self.pays[t] = list(row)
        return [0]

    def payis(self, where):
        return [0, self.pay(where[0], where[1], where[2], where[3])]

    def copy_other(self, t):
        # A list of its own, for a later set changes one table alone.
        self.pays[t] = list(self.pays[1 - t])
        return [0]

    def take_bounded(self, t, pays):
        if not within(pays, MOST_PAY):
            return refused(TOO_MUCH)
        self.pays[t] = pays
        return [0]

    def shape(self, t, row):
        if len(row) != self.places or not within(row, MOST_IN_ROW):
            return refused(NOT_FIT)
        pays = []
        for s in range(self.places):
            for x in range(self.acts):
                for q in range(self.places):
                    # The potentials are h times the row, so that counting
                    # one g by h leaves a whole number, g times the row's.
                    more = self.g * row[q] - self.h * row[s]
                    pays.append(self.pay(t, s, x, q) + more)
        return self.take_bounded(t, pays)

    def scale(self, t, c):
        if c < 1 or c > MOST_FACTOR:
            return refused(NOT_FIT)
        return self.take_bounded(t, [c * pay for pay in self.pays[t]])

    def own_potential(self, t, s):
        stay = self.pay(t, s, 0, s)
        return fraction(-stay * self.h, self.h - self.g)

    def least_pay(self, t, s, x, q):
        # All over h less g: the own potential of s, and that of q counted
        # g by h, are then whole, and only the end is made a fraction.
        lower = self.h - self.g
        own = -self.pay(t, s, 0, s) * self.h
        own_counted = -self.pay(t, q, 0, q) * self.g
        return fraction(self.pay(t, s, x, q) * lower + own - own_counted, lower)

    def potof(self, t):
        told = [self.places]
        for s in range(self.places):
            told.extend(self.own_potential(t, s))
        return told

    def least(self, where):
        told = [0]
        told.extend(self.least_pay(where[0], where[1], where[2], where[3]))
        return told

    def leastrow(self, where):
        told = [self.places]
        for q in range(self.places):
            told.extend(self.least_pay(where[0], where[1], where[2], q))
        return told


def split_calls(calls):
    """Each call as a tuple: its number, its whole numbers, its row."""
    found = []
    at = 0
    while at < len(calls):
        number = calls[at]
        behind = at + 1 + CALLS[number][1]
        numbers = calls[at + 1:behind]
        row = []
        if CALLS[number][3]:
            first = behind + 1
            behind = first + calls[behind]
            row = calls[first:behind]
        found.append((number, numbers, row))
        at = behind
    return found


def change(tables, name, numbers, row):
    if name == "set":
        return tables.set_pay(numbers, row)
    if name == "fill":
        return tables.fill(numbers[0], row)
    if name == "copy":
        return tables.copy_other(numbers[0])
    if name == "shape":
        return tables.shape(numbers[0], row)
    return tables.scale(numbers[0], numbers[1])


def tell(tables, name, numbers):
    if name == "payis":
        return tables.payis(numbers)
    if name == "potof":
        return tables.potof(numbers[0])
    if name == "least":
        return tables.least(numbers)
    return tables.leastrow(numbers)


def answer(tables, number, numbers, row):
    name = CALLS[number][0]
    if name == "begin":
        return tables.begin(numbers[0], numbers[1], numbers[2], numbers[3])
    if not tables.begun():
        return refused(NOT_BEGUN)
    # Of every call that may be refused so, this refusal stands first.
    if not tables.has(numbers[:CALLS[number][2]]):
        return refused(NO_SUCH)
    if name in ("set", "fill", "copy", "shape", "scale"):
        return change(tables, name, numbers, row)
    if name in ("payis", "potof", "least", "leastrow"):
        return tell(tables, name, numbers)
    raise NotImplementedError(name)


def answers(calls):
    tables = Tables()
    told = []
    for call in split_calls(calls):
        numbers = answer(tables, call[0], call[1], call[2])
        told.append(len(numbers))
        told.extend(numbers)
    return told
