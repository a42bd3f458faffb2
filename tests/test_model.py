"""Many lists of calls, against the document's words written down once more with fractions."""

import random
import unittest
from fractions import Fraction

from tests.calls import (
    TEN_TO_30, ask, begin, copy, fill, least, leastrow, payis, potof, put, scale, shape,
)


class Model:
    def __init__(self):
        self.size = None

    def begin(self, n, m, g, h):
        if n not in (2, 3, 4) or m not in (1, 2, 3) or not 1 <= g < h <= 10:
            return [-22]
        self.size = (n, m)
        self.counted = Fraction(g, h)
        self.h = h
        self.spots = [(s, x, q) for s in range(n) for x in range(m) for q in range(n)]
        self.tables = [dict.fromkeys(self.spots, 0), dict.fromkeys(self.spots, 0)]
        return [n * m * n]

    def lacks(self, t, s=0, x=0, q=0):
        return t > 1 or (s, x, q) not in self.tables[0]

    def put(self, t, s, x, q, *row):
        if self.lacks(t, s, x, q):
            return [-2]
        if len(row) != 1 or not -1000 <= row[0] <= 1000:
            return [-22]
        was = self.tables[t][(s, x, q)]
        self.tables[t] = {**self.tables[t], (s, x, q): row[0]}
        return [0, was]

    def fill(self, t, *row):
        if self.lacks(t):
            return [-2]
        if len(row) != len(self.spots) or any(not -1000 <= number <= 1000 for number in row):
            return [-22]
        self.tables[t] = dict(zip(self.spots, row))
        return [0]

    def payis(self, t, s, x, q):
        return [-2] if self.lacks(t, s, x, q) else [0, self.tables[t][(s, x, q)]]

    def copy(self, t):
        if self.lacks(t):
            return [-2]
        self.tables[t] = dict(self.tables[1 - t])
        return [0]

    def bounded(self, t, wanted):
        if max(wanted.values()) > 100000 or min(wanted.values()) < -100000:
            return [-75]
        self.tables[t] = wanted
        return [0]

    def shape(self, t, *row):
        if self.lacks(t):
            return [-2]
        if len(row) != self.size[0] or any(not -1000 <= number <= 1000 for number in row):
            return [-22]
        potential = [self.h * number for number in row]
        return self.bounded(t, {
            (s, x, q): pay + self.counted * potential[q] - potential[s]
            for (s, x, q), pay in self.tables[t].items()
        })

    def scale(self, t, c):
        if self.lacks(t):
            return [-2]
        if not 1 <= c <= 100:
            return [-22]
        return self.bounded(t, {spot: c * pay for spot, pay in self.tables[t].items()})

    def own(self, t, s):
        return -self.tables[t][(s, 0, s)] / (1 - self.counted)

    def least_form(self, t, s, x, q):
        return self.tables[t][(s, x, q)] + self.own(t, s) - self.counted * self.own(t, q)

    def potof(self, t):
        if self.lacks(t):
            return [-2]
        return self.told(self.size[0], [self.own(t, s) for s in range(self.size[0])])

    def least(self, t, s, x, q):
        return [-2] if self.lacks(t, s, x, q) else self.told(0, [self.least_form(t, s, x, q)])

    def leastrow(self, t, s, x):
        if self.lacks(t, s, x):
            return [-2]
        return self.told(self.size[0], [self.least_form(t, s, x, q) for q in range(self.size[0])])

    def told(self, first, fractions):
        found = [first]
        for value in fractions:
            found += [Fraction(value).numerator, Fraction(value).denominator]
        return found


MAKERS = {
    "begin": begin, "put": put, "fill": fill, "payis": payis, "copy": copy,
    "shape": shape, "scale": scale, "potof": potof, "least": least, "leastrow": leastrow,
}


class Chooser:
    """Calls that mostly fit the tables as they are, and now and then don't."""

    def __init__(self, seed):
        self.rng = random.Random(seed)

    def seldom(self):
        return self.rng.random() < 0.06

    def below(self, bound):
        return self.rng.choice((bound, bound + 1, 4294967295)) if self.seldom() else self.rng.randrange(bound)

    def number(self):
        if self.rng.random() < 0.01:
            return self.rng.choice((1001, -1001, TEN_TO_30, -TEN_TO_30))
        return self.rng.choice((-1000, 1000, 0, self.rng.randint(-1000, 1000), self.rng.randint(-9, 9)))

    def row(self, length, most):
        if self.seldom():
            length = self.rng.randint(0, most)
        return [self.number() for k in range(length)]

    def where(self, n, m):
        return [self.below(2), self.below(n), self.below(m), self.below(n)]

    def begin(self):
        g = self.rng.randint(1, 9)
        h = self.rng.randint(g + 1, 10)
        if self.rng.random() < 0.3:
            return [self.rng.randint(0, 5), self.rng.randint(0, 4), self.rng.randint(0, 11), self.rng.randint(0, 12)]
        return [self.rng.randint(2, 4), self.rng.randint(1, 3), g, h]

    def call(self, size):
        n, m = size or (2, 1)
        names = ["begin"] + 6 * ["shape", "scale"] + 4 * [name for name in MAKERS if name != "begin"]
        name = self.rng.choice(names)
        if name == "begin":
            return name, self.begin()
        where = self.where(n, m)
        if name == "put":
            return name, where + self.row(1, 4)
        if name == "fill":
            return name, where[:1] + self.row(n * m * n, 50)
        if name == "shape":
            return name, where[:1] + self.row(n, 6)
        if name == "scale":
            return name, where[:1] + [self.rng.choice((0, 1, 2, 3, 5, 100, 101))]
        if name in ("copy", "potof"):
            return name, where[:1]
        return name, where[:3] if name == "leastrow" else where


class AgainstModel(unittest.TestCase):
    def test_many_lists(self):
        seen = {}
        for seed in range(400):
            chooser = Chooser(seed)
            model = Model()
            calls = []
            want = []
            for k in range(60):
                name, arguments = ("begin", chooser.begin()) if k == 1 else chooser.call(model.size)
                calls.append(MAKERS[name](*arguments))
                begun = name == "begin" or model.size
                want.append(getattr(model, name)(*arguments) if begun else [-11])
                seen[(name, min(want[-1][0], 0))] = True
            self.assertEqual(ask(*calls), want, seed)
        self.check_seen(seen)

    def check_seen(self, seen):
        refusals = {
            "begin": (-22,), "put": (-2, -11, -22), "fill": (-2, -11, -22), "payis": (-2, -11), "copy": (-2, -11),
            "shape": (-2, -11, -22, -75), "scale": (-2, -11, -22, -75), "potof": (-2, -11), "least": (-2, -11),
            "leastrow": (-2, -11),
        }
        want = {(name, number) for name in refusals for number in refusals[name] + (0,)}
        self.assertEqual(set(seen), want)


if __name__ == "__main__":
    unittest.main()
