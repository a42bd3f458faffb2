"""Many lists of calls, against the document's words written down once more with fractions."""

import random
import unittest
from fractions import Fraction

from tests.calls import (
    TEN_TO_30, alike, ask, begin, copy, differ, factor, far, fill, gap, ifset, least, leastrow, path, payis, potentials,
    potof, put, scale, shape, swap, trivial,
)


class Model:
    def __init__(self):
        self.size = None

    def begin(self, n, m, g, h):
        if n not in (2, 3, 4) or m not in (1, 2, 3) or not 1 <= g < h <= 10:
            return [-22]
        self.size = (n, m)
        self.counted = Fraction(g, h)
        self.h = h
        self.spots = [(s, x, q) for s in range(n) for x in range(m) for q in range(n)]
        self.tables = [dict.fromkeys(self.spots, 0), dict.fromkeys(self.spots, 0)]
        return [n * m * n]

    def lacks(self, t, s=0, x=0, q=0):
        return t > 1 or (s, x, q) not in self.tables[0]

    def put(self, t, s, x, q, *row):
        if self.lacks(t, s, x, q):
            return [-2]
        if len(row) != 1 or not -1000 <= row[0] <= 1000:
            return [-22]
        was = self.tables[t][(s, x, q)]
        self.tables[t] = {**self.tables[t], (s, x, q): row[0]}
        return [0, was]

    def fill(self, t, *row):
        if self.lacks(t):
            return [-2]
        if len(row) != len(self.spots) or any(not -1000 <= number <= 1000 for number in row):
            return [-22]
        self.tables[t] = dict(zip(self.spots, row))
        return [0]

    def payis(self, t, s, x, q):
        return [-2] if self.lacks(t, s, x, q) else [0, self.tables[t][(s, x, q)]]

    def copy(self, t):
        if self.lacks(t):
            return [-2]
        self.tables[t] = dict(self.tables[1 - t])
        return [0]

    def bounded(self, t, wanted):
        if max(wanted.values()) > 100000 or min(wanted.values()) < -100000:
            return [-75]
        self.tables[t] = wanted
        return [0]

    def shape(self, t, *row):
        if self.lacks(t):
            return [-2]
        if len(row) != self.size[0] or any(not -1000 <= number <= 1000 for number in row):
            return [-22]
        potential = [self.h * number for number in row]
        return self.bounded(t, {
            (s, x, q): pay + self.counted * potential[q] - potential[s]
            for (s, x, q), pay in self.tables[t].items()
        })

    def scale(self, t, c):
        if self.lacks(t):
            return [-2]
        if not 1 <= c <= 100:
            return [-22]
        return self.bounded(t, {spot: c * pay for spot, pay in self.tables[t].items()})

    def own(self, t, s):
        return -self.tables[t][(s, 0, s)] / (1 - self.counted)

    def least_form(self, t, s, x, q):
        return self.tables[t][(s, x, q)] + self.own(t, s) - self.counted * self.own(t, q)

    def potof(self, t):
        if self.lacks(t):
            return [-2]
        return self.told(self.size[0], [self.own(t, s) for s in range(self.size[0])])

    def least(self, t, s, x, q):
        return [-2] if self.lacks(t, s, x, q) else self.told(0, [self.least_form(t, s, x, q)])

    def leastrow(self, t, s, x):
        if self.lacks(t, s, x):
            return [-2]
        return self.told(self.size[0], [self.least_form(t, s, x, q) for q in range(self.size[0])])

    def swap(self):
        self.tables.reverse()
        return [0]

    def trivial(self, t):
        if self.lacks(t):
            return [-2]
        return [int(all(self.least_form(t, *spot) == 0 for spot in self.spots))]

    def making(self, first, second):
        """The potentials that shape the first table so that it's the second one, or None."""
        potential = []
        for s in range(self.size[0]):
            # Staying by act 0 leaves no choice: it pays the potential less, and it counted more.
            potential.append((second[(s, 0, s)] - first[(s, 0, s)]) / (self.counted - 1))
        for s, x, q in self.spots:
            if first[(s, x, q)] + self.counted * potential[q] - potential[s] != second[(s, x, q)]:
                return None
        return potential

    def alike(self):
        return [int(self.making(*self.tables) is not None)]

    def potentials(self):
        potential = self.making(*self.tables)
        return [-33] if potential is None else self.told(self.size[0], potential)

    def ifset(self, t, s, x, q, *row):
        if self.lacks(t, s, x, q):
            return [-2]
        if len(row) != 1 or not -1000 <= row[0] <= 1000:
            return [-22]
        tables = [dict(table) for table in self.tables]
        tables[t][(s, x, q)] = row[0]
        return [int(self.making(*tables) is not None)]

    def both_least(self):
        return [(self.least_form(0, *spot), self.least_form(1, *spot)) for spot in self.spots]

    def factor(self):
        pairs = self.both_least()
        if all(pair == (0, 0) for pair in pairs):
            return [0, 1, 1]
        found = {second / first if first else None for first, second in pairs if (first, second) != (0, 0)}
        if len(found) > 1 or None in found or max(found) <= 0:
            return [-33]
        return self.told(0, found)

    def far(self):
        apart = [abs(second - first) for first, second in self.both_least()]
        if max(apart) == 0:
            return [0, 0, 1, 0, 0, 0]
        where = min(spot for spot, distance in zip(self.spots, apart) if distance == max(apart))
        return self.told(0, [max(apart)]) + list(where)

    def differ(self):
        return [sum(first != second for first, second in self.both_least())]

    def no_path(self, row):
        places, acts = row[::2], row[1::2]
        if len(places) != len(acts) + 1 or len(acts) > 6:
            return True
        return max(places) >= self.size[0] or max(acts, default=0) >= self.size[1]

    def paid(self, t, row):
        steps = [tuple(row[k:k + 3]) for k in range(0, len(row) - 1, 2)]
        return sum(self.tables[t][spot] * self.counted ** late for late, spot in enumerate(steps))

    def path(self, t, *row):
        if self.lacks(t):
            return [-2]
        return [-22] if self.no_path(row) else self.told(0, [self.paid(t, row)])

    def gap(self, *row):
        return [-22] if self.no_path(row) else self.told(0, [self.paid(1, row) - self.paid(0, row)])

    def told(self, first, fractions):
        found = [first]
        for value in fractions:
            found += [Fraction(value).numerator, Fraction(value).denominator]
        return found


MAKERS = {
    "begin": begin, "put": put, "fill": fill, "payis": payis, "copy": copy,
    "shape": shape, "scale": scale, "potof": potof, "least": least, "leastrow": leastrow,
    "alike": alike, "potentials": potentials, "factor": factor, "far": far, "differ": differ,
    "path": path, "gap": gap, "swap": swap, "ifset": ifset, "trivial": trivial,
}


class Chooser:
    """Calls that mostly fit the tables as they are, and now and then don't."""

    def __init__(self, seed):
        self.rng = random.Random(seed)

    def seldom(self):
        return self.rng.random() < 0.06

    def below(self, bound):
        return self.rng.choice((bound, bound + 1, 4294967295)) if self.seldom() else self.rng.randrange(bound)

    def number(self):
        if self.rng.random() < 0.01:
            return self.rng.choice((1001, -1001, TEN_TO_30, -TEN_TO_30))
        return self.rng.choice((-1000, 1000, 0, self.rng.randint(-1000, 1000), self.rng.randint(-9, 9)))

    def row(self, length, most):
        if self.seldom():
            length = self.rng.randint(0, most)
        return [self.number() for k in range(length)]

    def where(self, n, m):
        return [self.below(2), self.below(n), self.below(m), self.below(n)]

    def steps(self, n, m):
        """A row for path or gap."""
        length = self.rng.randint(0, 15) if self.rng.random() < 0.2 else self.rng.choice(range(1, 14, 2))
        row = [self.rng.randrange(m if k % 2 else n) for k in range(length)]
        if row and self.seldom():
            row[self.rng.randrange(length)] = self.rng.choice((m, n, 4294967295))
        return row

    def begin(self):
        g = self.rng.randint(1, 9)
        h = self.rng.randint(g + 1, 10)
        if self.rng.random() < 0.3:
            return [self.rng.randint(0, 5), self.rng.randint(0, 4), self.rng.randint(0, 11), self.rng.randint(0, 12)]
        return [self.rng.randint(2, 4), self.rng.randint(1, 3), g, h]

    def call(self, size):
        n, m = size or (2, 1)
        # Often copied and seldom filled, so that the tables are alike now and then.
        names = ["begin"] + 10 * ["shape", "copy"] + 4 * [name for name in MAKERS if name not in ("begin", "fill")]
        name = self.rng.choice(names + 3 * ["fill"])
        if name == "begin":
            return name, self.begin()
        where = self.where(n, m)
        if name in ("put", "ifset"):
            return name, where + self.row(1, 4)
        if name == "fill":
            return name, where[:1] + self.row(n * m * n, 50)
        if name == "shape":
            return name, where[:1] + self.row(n, 6)
        if name == "scale":
            return name, where[:1] + [self.rng.choice((0, 1, 2, 3, 5, 100, 101))]
        if name in ("alike", "potentials", "factor", "far", "differ", "swap"):
            return name, []
        if name in ("path", "gap"):
            return name, (where[:1] if name == "path" else []) + self.steps(n, m)
        if name in ("copy", "potof", "trivial"):
            return name, where[:1]
        return name, where[:3] if name == "leastrow" else where


class AgainstModel(unittest.TestCase):
    def test_many_lists(self):
        seen = {}
        for seed in range(400):
            chooser = Chooser(seed)
            model = Model()
            calls = []
            want = []
            for k in range(60):
                name, arguments = ("begin", chooser.begin()) if k == 1 else chooser.call(model.size)
                calls.append(MAKERS[name](*arguments))
                begun = name == "begin" or model.size
                want.append(getattr(model, name)(*arguments) if begun else [-11])
                seen[(name, self.sort_of(name, want[-1]))] = True
            self.assertEqual(ask(*calls), want, seed)
        self.check_seen(seen)

    def sort_of(self, name, told):
        """What is told, as far as it's to be seen at least once of each call."""
        return told[0] if name in ("alike", "ifset", "trivial") else min(told[0], 0)

    def check_seen(self, seen):
        others = {
            "begin": (-22,), "put": (-2, -11, -22), "fill": (-2, -11, -22), "payis": (-2, -11), "copy": (-2, -11),
            "shape": (-2, -11, -22, -75), "scale": (-2, -11, -22, -75), "potof": (-2, -11), "least": (-2, -11),
            "leastrow": (-2, -11), "alike": (-11, 1), "potentials": (-11, -33), "factor": (-11, -33), "far": (-11,),
            "differ": (-11,), "path": (-2, -11, -22), "gap": (-11, -22), "swap": (-11,),
            "ifset": (-2, -11, -22, 1), "trivial": (-2, -11, 1),
        }
        want = {(name, number) for name in others for number in others[name] + (0,)}
        self.assertEqual(set(seen), want)


if __name__ == "__main__":
    unittest.main()
