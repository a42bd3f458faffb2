"""What holds: the document's words on alike tables, paths and least forms, over drawn tables."""

import math
import random
import unittest
from fractions import Fraction

from tests.calls import (
    alike, ask, begin, differ, factor, far, fill, gap, ifset, last, least, leastrow, path, potentials, potof, scale,
    shape, swap, table, trivial,
)


def drawn_path(rng, n, m, acts):
    row = [rng.randrange(n)]
    for k in range(acts):
        row += [rng.randrange(m), rng.randrange(n)]
    return row


def fractions_of(told):
    """The fractions behind the first number."""
    return [Fraction(told[k], told[k + 1]) for k in range(1, len(told), 2)]


def shaped_by(pays, n, m, counted, potential):
    """The pays of a table shaped by potentials, by the document's words."""
    found = []
    for k, pay in enumerate(pays):
        s, q = k // (m * n), k % n
        found.append(pay + counted * potential[q] - potential[s])
    return found


class Drawn:
    """Places, acts, a counting and a table, drawn small enough that all fits a row."""

    def __init__(self, seed):
        self.rng = random.Random(seed)
        self.n = self.rng.randint(2, 4)
        self.m = self.rng.randint(1, 3)
        self.h = self.rng.randint(2, 10)
        self.g = self.rng.randint(1, self.h - 1)
        self.counted = Fraction(self.g, self.h)
        self.start = begin(self.n, self.m, self.g, self.h)
        self.first = self.pays()

    def pays(self):
        return [self.rng.randint(-90, 90) for k in range(self.n * self.m * self.n)]

    def potential(self):
        """Potentials that leave whole pays: the same fraction everywhere, and h times a number."""
        base = Fraction(self.rng.randint(-9, 9) * self.h, self.h - self.g)
        return [base + self.h * self.rng.randint(-9, 9) for s in range(self.n)]

    def alike_tables(self, potential):
        second = shaped_by(self.first, self.n, self.m, self.counted, potential)
        return [self.start, fill(0, *self.first), fill(1, *[int(pay) for pay in second])]

    def any_tables(self):
        second = list(self.first)
        for k in range(self.rng.randint(0, 2)):
            second[self.rng.randrange(len(second))] += self.rng.randint(-1, 1)
        return [self.start, fill(0, *self.first), fill(1, *second)]

    def least_rows(self, calls, t):
        return [last(*calls, leastrow(t, s, x)) for s in range(self.n) for x in range(self.m)]


class WhatHolds(unittest.TestCase):
    def test_alike_by_just_the_potentials_that_are_told(self):
        broken = 0
        for seed in range(150):
            drawn = Drawn(seed)
            potential = drawn.potential()
            calls = drawn.alike_tables(potential)
            told = ask(*calls, alike(), potentials())[3:]
            self.assertEqual(told[0], [1], seed)
            self.assertEqual(told[1][0], drawn.n)
            self.assertEqual(fractions_of(told[1]), potential, seed)
            broken += any(value.denominator > 1 for value in potential)
        self.assertGreater(broken, 30)

    def test_the_potentials_make_the_one_of_the_other(self):
        seen = [0, 0]
        for seed in range(200):
            drawn = Drawn(seed)
            calls = drawn.any_tables()
            answer, told = ask(*calls, alike(), potentials())[3:]
            seen[answer[0]] += 1
            if answer == [0]:
                self.assertEqual(told, [-33])
                continue
            made = shaped_by(table(calls, 0, drawn.n, drawn.m), drawn.n, drawn.m, drawn.counted, fractions_of(told))
            self.assertEqual(made, table(calls, 1, drawn.n, drawn.m), seed)
        self.assertGreater(min(seen), 20)

    def test_of_alike_tables_a_path_counts_but_for_its_ends(self):
        for seed in range(150):
            drawn = Drawn(seed)
            potential = drawn.potential()
            calls = drawn.alike_tables(potential)
            for acts in range(7):
                row = drawn_path(drawn.rng, drawn.n, drawn.m, acts)
                want = drawn.counted ** acts * potential[row[-1]] - potential[row[0]]
                paid0, paid1, more = [fractions_of(told)[0]
                                      for told in ask(*calls, path(0, *row), path(1, *row), gap(*row))[3:]]
                self.assertEqual(more, want, (seed, row))
                self.assertEqual(paid1 - paid0, want, (seed, row))

    def test_gap_is_what_the_paths_pay_apart(self):
        for seed in range(150):
            drawn = Drawn(seed)
            calls = [drawn.start, fill(0, *drawn.first), fill(1, *drawn.pays())]
            row = drawn_path(drawn.rng, drawn.n, drawn.m, drawn.rng.randint(0, 6))
            told = ask(*calls, path(0, *row), path(1, *row), gap(*row))[3:]
            paid0, paid1, more = [fractions_of(answer)[0] for answer in told]
            self.assertEqual(more, paid1 - paid0, (seed, row))

    def test_alike_just_if_the_least_forms_are_the_same(self):
        seen = [0, 0]
        for seed in range(150):
            drawn = Drawn(seed)
            calls = drawn.any_tables() + [shape(drawn.rng.randrange(2), *range(drawn.n))]
            same = drawn.least_rows(calls, 0) == drawn.least_rows(calls, 1)
            seen[same] += 1
            told = ask(*calls, alike(), differ(), far())[4:]
            self.assertEqual(told[0], [int(same)], seed)
            self.assertEqual(told[1] == [0], same, seed)
            self.assertEqual(told[2] == [0, 0, 1, 0, 0, 0], same, seed)
        self.assertGreater(min(seen), 20)

    def test_shaped_it_has_the_same_least_form_and_they_are_as_alike_as_before(self):
        for seed in range(100):
            drawn = Drawn(seed)
            calls = drawn.any_tables()
            for t in (0, 1):
                done = calls + [shape(t, *[drawn.rng.randint(-99, 99) for s in range(drawn.n)])]
                self.assertEqual(drawn.least_rows(calls, t), drawn.least_rows(done, t), seed)
                asking = [alike(), factor(), far(), differ(), trivial(t)]
                self.assertEqual(ask(*calls, *asking)[3:], ask(*done, *asking)[4:], seed)

    def test_a_least_form_pays_nothing_for_staying_by_act_0(self):
        for seed in range(100):
            drawn = Drawn(seed)
            for s in range(drawn.n):
                for t in (0, 1):
                    self.assertEqual(last(*drawn.any_tables(), least(t, s, 0, s)), [0, 0, 1])

    def test_ifset_tells_what_set_would_bring(self):
        seen = [0, 0]
        for seed in range(200):
            drawn = Drawn(seed)
            calls = drawn.any_tables()
            k = drawn.rng.randrange(len(drawn.first))
            where = [drawn.rng.randrange(2), k // (drawn.m * drawn.n), k // drawn.n % drawn.m, k % drawn.n]
            told = ask(*calls, ifset(*where, drawn.first[k]), [1, *where, 1, drawn.first[k]], alike())
            self.assertEqual(told[3], told[5], seed)
            seen[told[3][0]] += 1
        self.assertGreater(min(seen), 20)

    def test_scaled_the_factor_is_told(self):
        for seed in range(100):
            drawn = Drawn(seed)
            by = [drawn.rng.randint(1, 20), drawn.rng.randint(1, 20)]
            calls = drawn.alike_tables(drawn.potential()) + [scale(0, by[0]), scale(1, by[1])]
            told = last(*calls, factor())
            self.assertEqual(fractions_of(told), [Fraction(by[1], by[0])], seed)
            self.assertEqual(fractions_of(last(*calls, swap(), factor())), [Fraction(by[0], by[1])], seed)


class Fractions(unittest.TestCase):
    def check(self, numbers):
        for k in range(0, len(numbers), 2):
            upper, lower = numbers[k], numbers[k + 1]
            self.assertGreaterEqual(lower, 1)
            self.assertEqual(math.gcd(upper, lower), 1)
            self.signs[(upper > 0) - (upper < 0)] = True

    def test_nothing_in_common_and_the_sign_above(self):
        for name, signs in (("many", {-1, 0, 1}), ("potentials", {-1, 0, 1}), ("factor", {1}), ("far", {0, 1})):
            self.signs = {}
            for seed in range(120):
                drawn = Drawn(seed)
                getattr(self, name)(drawn, drawn.alike_tables(drawn.potential()))
            self.assertEqual(set(self.signs), signs, name)

    def many(self, drawn, calls):
        row = drawn_path(drawn.rng, drawn.n, drawn.m, drawn.rng.randint(0, 6))
        for call in (potof(0), potof(1), least(0, 1, 0, 0), leastrow(1, 1, 0), path(0, *row), path(1, *row), gap(*row)):
            self.check(last(*calls, call)[1:])

    def potentials(self, drawn, calls):
        self.check(last(*calls, potentials())[1:])

    def factor(self, drawn, calls):
        self.check(last(*calls, scale(0, 6), scale(1, drawn.rng.randint(1, 12)), factor())[1:])

    def far(self, drawn, calls):
        self.check(last(*calls, scale(1, drawn.rng.randint(1, 3)), far())[1:3])


if __name__ == "__main__":
    unittest.main()
