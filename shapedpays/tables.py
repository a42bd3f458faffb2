"""The calls on two tables of pays, answered one behind another."""

from shapedpays.forms import Setting, all_zero, factor_between, fraction

# By its number each call: its name, how many whole numbers it has, how many
# of these (the first ones) tell a table, a place, an act and a next place,
# and whether a row comes behind them.
CALLS = (
    ("begin", 4, 0, False),
    ("set", 4, 4, True),
    ("fill", 1, 1, True),
    ("payis", 4, 4, False),
    ("copy", 1, 1, False),
    ("shape", 1, 1, True),
    ("scale", 2, 1, False),
    ("potof", 1, 1, False),
    ("least", 4, 4, False),
    ("leastrow", 3, 3, False),
    ("alike", 0, 0, False),
    ("potentials", 0, 0, False),
    ("factor", 0, 0, False),
    ("far", 0, 0, False),
    ("differ", 0, 0, False),
    ("path", 1, 1, True),
    ("gap", 0, 0, True),
    ("swap", 0, 0, False),
    ("ifset", 4, 4, True),
    ("trivial", 1, 1, False),
)

# The refusals, without the sign that they are answered with.
NO_SUCH = 2
NOT_BEGUN = 11
NOT_FIT = 22
NONE_THERE = 33
TOO_MUCH = 75

MOST_IN_ROW = 1000
MOST_PAY = 100000
MOST_FACTOR = 100


def refused(number):
    return [-number]


def within(numbers, most):
    for number in numbers:
        if abs(number) > most:
            return False
    return True


def is_one_pay(row):
    return len(row) == 1 and within(row, MOST_IN_ROW)


def yes_or_no(truth):
    return [1] if truth else [0]


def told_fractions(first, uppers, lower):
    """A number, then a fraction for each of the uppers."""
    told = [first]
    for upper in uppers:
        told.extend(fraction(upper, lower))
    return told


class Tables:
    """The two tables, with their places, acts and counting.

    A list `where` tells a table, a place, an act and a next place, or the
    first few of these.
    """

    def __init__(self):
        # No setting stands for: nothing has begun yet.
        self.setting = None
        self.pays = []

    def begun(self):
        return self.setting is not None

    def has(self, where):
        limits = [2, self.setting.places, self.setting.acts, self.setting.places]
        for k in range(len(where)):
            if where[k] >= limits[k]:
                return False
        return True

    def spot(self, where):
        return self.setting.spot(where[1], where[2], where[3])

    def begin(self, n, m, g, h):
        if n < 2 or n > 4 or m < 1 or m > 3:
            return refused(NOT_FIT)
        if g < 1 or h <= g or h > 10:
            return refused(NOT_FIT)
        self.setting = Setting(n, m, g, h)
        size = self.setting.size()
        self.pays = [[0] * size, [0] * size]
        return [size]

    def set_pay(self, where, row):
        if not is_one_pay(row):
            return refused(NOT_FIT)
        table = self.pays[where[0]]
        k = self.spot(where)
        was = table[k]
        table[k] = row[0]
        return [0, was]

    def fill(self, t, row):
        if len(row) != len(self.pays[t]) or not within(row, MOST_IN_ROW):
            return refused(NOT_FIT)
        self.pays[t] = list(row)
        return [0]

    def payis(self, where):
        return [0, self.pays[where[0]][self.spot(where)]]

    def copy_other(self, t):
        # A list of its own, for a later set changes one table alone.
        self.pays[t] = list(self.pays[1 - t])
        return [0]

    def swap(self):
        self.pays = [self.pays[1], self.pays[0]]
        return [0]

    def take_bounded(self, t, pays):
        if not within(pays, MOST_PAY):
            return refused(TOO_MUCH)
        self.pays[t] = pays
        return [0]

    def shape(self, t, row):
        if len(row) != self.setting.places or not within(row, MOST_IN_ROW):
            return refused(NOT_FIT)
        return self.take_bounded(t, self.setting.shaped(self.pays[t], row))

    def scale(self, t, c):
        if c < 1 or c > MOST_FACTOR:
            return refused(NOT_FIT)
        return self.take_bounded(t, [c * pay for pay in self.pays[t]])

    def potof(self, t):
        own = self.setting.own_potentials(self.pays[t])
        return told_fractions(self.setting.places, own, self.setting.divisor())

    def least(self, where):
        pay = self.setting.least_pay(self.pays[where[0]], self.spot(where))
        return told_fractions(0, [pay], self.setting.divisor())

    def leastrow(self, where):
        first = self.setting.spot(where[1], where[2], 0)
        pays = self.setting.least_form(self.pays[where[0]])[first:first + self.setting.places]
        return told_fractions(self.setting.places, pays, self.setting.divisor())

    def is_trivial(self, table):
        return all_zero(self.setting.least_form(table))

    def trivial(self, t):
        return yes_or_no(self.is_trivial(self.pays[t]))

    def apart(self):
        """Table 1 less table 0, pay by pay.

        Own potentials, least forms and what paths pay are sums of pays, each
        one times a fixed number. So those of this table are those of table 1
        less those of table 0, and it tells all of how the tables differ.
        """
        return [self.pays[1][k] - self.pays[0][k] for k in range(self.setting.size())]

    def alike(self):
        return yes_or_no(self.is_trivial(self.apart()))

    def potentials(self):
        table = self.apart()
        if not self.is_trivial(table):
            return refused(NONE_THERE)
        # Shaping lays the potentials on a table's own ones, so they are
        # those of table 1 less those of table 0.
        own = self.setting.own_potentials(table)
        return told_fractions(self.setting.places, own, self.setting.divisor())

    def factor(self):
        first = self.setting.least_form(self.pays[0])
        second = self.setting.least_form(self.pays[1])
        found = factor_between(first, second)
        if found is None:
            return refused(NONE_THERE)
        return [0, found[0], found[1]]

    def far(self):
        distances = [abs(pay) for pay in self.setting.least_form(self.apart())]
        most = max(distances)
        told = told_fractions(0, [most], self.setting.divisor())
        told.extend(self.setting.where(distances.index(most)))
        return told

    def differ(self):
        unlike = [pay for pay in self.setting.least_form(self.apart()) if pay != 0]
        return [len(unlike)]

    def ifset(self, where, row):
        if not is_one_pay(row):
            return refused(NOT_FIT)
        k = self.spot(where)
        other = self.pays[1 - where[0]][k]
        table = self.apart()
        table[k] = row[0] - other if where[0] == 1 else other - row[0]
        return yes_or_no(self.is_trivial(table))

    def told_path(self, table, row):
        if not self.setting.is_path(row):
            return refused(NOT_FIT)
        pay = self.setting.path_pay(table, row)
        return [0, pay[0], pay[1]]

    def path(self, t, row):
        return self.told_path(self.pays[t], row)

    def gap(self, row):
        return self.told_path(self.apart(), row)


def split_calls(calls):
    """Each call as a tuple: its number, its whole numbers, its row."""
    found = []
    at = 0
    while at < len(calls):
        number = calls[at]
        behind = at + 1 + CALLS[number][1]
        numbers = calls[at + 1:behind]
        row = []
        if CALLS[number][3]:
            first = behind + 1
            behind = first + calls[behind]
            row = calls[first:behind]
        found.append((number, numbers, row))
        at = behind
    return found


def change(tables, name, numbers, row):
    if name == "set":
        return tables.set_pay(numbers, row)
    if name == "fill":
        return tables.fill(numbers[0], row)
    if name == "copy":
        return tables.copy_other(numbers[0])
    if name == "shape":
        return tables.shape(numbers[0], row)
    if name == "scale":
        return tables.scale(numbers[0], numbers[1])
    return tables.swap()


def tell_of_one(tables, name, numbers, row):
    if name == "payis":
        return tables.payis(numbers)
    if name == "potof":
        return tables.potof(numbers[0])
    if name == "least":
        return tables.least(numbers)
    if name == "leastrow":
        return tables.leastrow(numbers)
    if name == "path":
        return tables.path(numbers[0], row)
    return tables.trivial(numbers[0])


def tell_of_both(tables, name, numbers, row):
    if name == "alike":
        return tables.alike()
    if name == "potentials":
        return tables.potentials()
    if name == "factor":
        return tables.factor()
    if name == "far":
        return tables.far()
    if name == "differ":
        return tables.differ()
    if name == "gap":
        return tables.gap(row)
    return tables.ifset(numbers, row)


def answer(tables, number, numbers, row):
    name = CALLS[number][0]
    if name == "begin":
        return tables.begin(numbers[0], numbers[1], numbers[2], numbers[3])
    if not tables.begun():
        return refused(NOT_BEGUN)
    # Of every call that may be refused so, this refusal stands first.
    if not tables.has(numbers[:CALLS[number][2]]):
        return refused(NO_SUCH)
    if name in ("set", "fill", "copy", "shape", "scale", "swap"):
        return change(tables, name, numbers, row)
    if name in ("payis", "potof", "least", "leastrow", "path", "trivial"):
        return tell_of_one(tables, name, numbers, row)
    return tell_of_both(tables, name, numbers, row)


def answers(calls):
    tables = Tables()
    told = []
    for call in split_calls(calls):
        numbers = answer(tables, call[0], call[1], call[2])
        told.append(len(numbers))
        told.extend(numbers)
    return told
