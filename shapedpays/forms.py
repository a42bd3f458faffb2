"""What one table of pays comes to: its own potentials, its least form, its paths.

A table is a list of its pays, by places, then acts, then next places.
"""

MOST_IN_PATH = 13


def common_part(a, b):
    while b > 0:
        rest = a % b
        a = b
        b = rest
    return a


def fraction(upper, lower):
    """The two numbers of a fraction with nothing in common; lower is 1 or more."""
    common = common_part(abs(upper), lower)
    return [upper // common, lower // common]


def all_zero(numbers):
    for number in numbers:
        if number != 0:
            return False
    return True


def first_not_zero(numbers):
    """Where the first number stands that isn't 0; there is one."""
    at = 0
    while numbers[at] == 0:
        at = at + 1
    return at


def factor_between(first, second):
    """The fraction above 0 by which each number of second is that of first, or None."""
    if all_zero(first):
        return [1, 1] if all_zero(second) else None
    at = first_not_zero(first)
    if first[at] * second[at] <= 0:
        return None
    for k in range(len(first)):
        # Multiplied crosswise, so that no fraction is to be compared.
        if first[k] * second[at] != second[k] * first[at]:
            return None
    return fraction(abs(second[at]), abs(first[at]))


class Setting:
    """How many places and acts there are, and that what comes a step later counts g by h."""

    def __init__(self, places, acts, g, h):
        self.places = places
        self.acts = acts
        self.g = g
        self.h = h

    def size(self):
        return self.places * self.acts * self.places

    def spot(self, s, x, q):
        """Where the pay for place s, act x and next place q stands in a table."""
        return (s * self.acts + x) * self.places + q

    def where(self, k):
        """The place, the act and the next place of the pay that stands at k."""
        row = k // self.places
        return [row // self.acts, row % self.acts, k % self.places]

    def stay(self, table, s):
        return table[self.spot(s, 0, s)]

    def divisor(self):
        """What own potentials and least forms have below: above it they are whole."""
        return self.h - self.g

    def own_potentials(self, table):
        """Whole numbers, to be taken over `divisor`."""
        return [-self.stay(table, s) * self.h for s in range(self.places)]

    def least_pay(self, table, k):
        """A whole number, to be taken over `divisor`."""
        ends = self.where(k)
        own = -self.stay(table, ends[0]) * self.h
        # Counted g by h the own potential has g in the place of its h.
        own_counted = -self.stay(table, ends[2]) * self.g
        return table[k] * self.divisor() + own - own_counted

    def least_form(self, table):
        return [self.least_pay(table, k) for k in range(self.size())]

    def shaped(self, table, row):
        """The table shaped by the potentials h times the row's numbers."""
        pays = []
        for k in range(self.size()):
            ends = self.where(k)
            # As the potentials are h times the row, counting one g by h
            # leaves a whole number, g times the row's.
            pays.append(table[k] + self.g * row[ends[2]] - self.h * row[ends[0]])
        return pays

    def is_path(self, row):
        if len(row) % 2 == 0 or len(row) > MOST_IN_PATH:
            return False
        for k in range(len(row)):
            limit = self.places if k % 2 == 0 else self.acts
            if row[k] >= limit:
                return False
        return True

    def path_pay(self, table, row):
        """What a path pays, as a fraction."""
        upper = 0
        lower = 1
        # From the last act back, so that at each step all that comes later
        # is counted g by h once more.
        for k in range(len(row) - 2, 0, -2):
            pay = table[self.spot(row[k - 1], row[k], row[k + 1])]
            lower = lower * self.h
            upper = pay * lower + self.g * upper
        return fraction(upper, lower)
