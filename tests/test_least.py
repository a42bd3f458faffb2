"""Promise 3: potof, least, leastrow."""

import unittest

from tests.calls import ask, begin, copy, fill, last, least, leastrow, potof, put, scale, shape

MOST = 4294967295
# Counted 2 by 5, with staying by act 0 paying 3 at place 0 and -4 at place 1.
START = [begin(2, 2, 2, 5), fill(0, 3, 10, 5, 1, 7, -4, 0, 2)]
SMALL = begin(2, 1, 1, 2)


class Potof(unittest.TestCase):
    def test_by_hand(self):
        self.assertEqual(last(*START, potof(0)), [2, -5, 1, 20, 3])

    def test_of_the_other_table(self):
        self.assertEqual(last(*START, potof(1)), [2, 0, 1, 0, 1])
        self.assertEqual(last(*START, put(1, 1, 0, 1, 6), potof(1)), [2, 0, 1, -10, 1])

    def test_only_staying_by_act_0_counts(self):
        calls = [begin(2, 2, 2, 5), fill(0, 0, 9, 9, 9, 9, 0, 9, 9), potof(0)]
        self.assertEqual(last(*calls), [2, 0, 1, 0, 1])

    def test_least_and_greatest_counting(self):
        self.assertEqual(last(SMALL, fill(0, 3, 0, 0, -4), potof(0)), [2, -6, 1, 8, 1])
        self.assertEqual(last(begin(2, 1, 9, 10), fill(0, 3, 0, 0, -4), potof(0)), [2, -30, 1, 40, 1])
        self.assertEqual(last(begin(2, 1, 1, 10), fill(0, 3, 0, 0, -4), potof(0)), [2, -10, 3, 40, 9])

    def test_four_places(self):
        row = [0] * 48
        for s in range(4):
            row[s * 12 + s] = s + 1
        self.assertEqual(last(begin(4, 3, 3, 7), fill(1, *row), potof(1)), [4, -7, 4, -7, 2, -21, 4, -7, 1])

    def test_at_the_bounds_of_pays(self):
        calls = [begin(2, 1, 1, 10), fill(0, 1000, 0, 0, -1000), scale(0, 100), potof(0)]
        self.assertEqual(last(*calls), [2, -1000000, 9, 1000000, 9])

    def test_nothing_in_common_and_the_sign_above(self):
        for h in range(2, 11):
            for g in range(1, h):
                lower = h - g
                # The stay of place 0 makes a whole number, whatever is below.
                calls = [begin(2, 1, g, h), fill(0, lower, 0, 0, -lower), potof(0)]
                self.assertEqual(last(*calls), [2, -h, 1, h, 1], (g, h))

    def test_no_such_table(self):
        for t in (2, 3, MOST):
            self.assertEqual(last(*START, potof(t)), [-2])

    def test_changes_nothing(self):
        self.assertEqual(ask(*START, potof(0), potof(0))[2:], [[2, -5, 1, 20, 3]] * 2)


class Least(unittest.TestCase):
    # By place, act and next place: the pays 3, 10, 5, 1, 7, -4, 0, 2 with the own
    # potentials -5 and 20/3 laid on, and these counted 2 by 5 (-2 and 8/3) taken off.
    WANT = {
        (0, 0, 0): [0, 1], (0, 0, 1): [7, 3], (0, 1, 0): [2, 1], (0, 1, 1): [-20, 3],
        (1, 0, 0): [47, 3], (1, 0, 1): [0, 1], (1, 1, 0): [26, 3], (1, 1, 1): [6, 1],
    }

    def test_by_hand(self):
        for where, want in self.WANT.items():
            self.assertEqual(last(*START, least(0, *where)), [0] + want, where)

    def test_of_the_other_table(self):
        for where, want in self.WANT.items():
            self.assertEqual(last(*START, least(1, *where)), [0, 0, 1], where)
            self.assertEqual(last(*START, copy(1), least(1, *where)), [0] + want, where)

    def test_leastrow_by_hand(self):
        for s in (0, 1):
            for x in (0, 1):
                want = [2] + self.WANT[(s, x, 0)] + self.WANT[(s, x, 1)]
                self.assertEqual(last(*START, leastrow(0, s, x)), want)
                self.assertEqual(last(*START, leastrow(1, s, x)), [2, 0, 1, 0, 1])

    def test_leastrow_of_the_largest(self):
        calls = [begin(4, 3, 1, 2), put(1, 3, 2, 1, 5), put(1, 2, 0, 2, 4)]
        self.assertEqual(last(*calls, leastrow(1, 3, 2)), [4, 0, 1, 5, 1, 4, 1, 0, 1])
        self.assertEqual(last(*calls, leastrow(1, 2, 1)), [4, -8, 1, -8, 1, -4, 1, -8, 1])

    def test_staying_by_act_0_pays_nothing(self):
        for g, h in ((1, 2), (9, 10), (1, 10), (3, 7)):
            row = [(k * 37) % 101 - 50 for k in range(48)]
            calls = [begin(4, 3, g, h), fill(0, *row)]
            for s in range(4):
                self.assertEqual(last(*calls, least(0, s, 0, s)), [0, 0, 1])

    def test_a_table_of_0(self):
        for m in (1, 3):
            calls = [begin(4, m, 9, 10), leastrow(0, 3, m - 1), leastrow(1, 0, 0)]
            self.assertEqual(ask(*calls)[1:], [[4] + [0, 1] * 4] * 2)

    def test_a_table_of_nothing_but_potentials(self):
        for g, h in ((1, 2), (9, 10), (1, 10), (3, 7)):
            calls = [begin(4, 3, g, h), shape(0, 5, -6, 0, 1000)]
            self.assertEqual(last(*calls, potof(0)), [4, 5 * h, 1, -6 * h, 1, 0, 1, 1000 * h, 1])
            for s in range(4):
                for x in range(3):
                    self.assertEqual(last(*calls, leastrow(0, s, x)), [4] + [0, 1] * 4)

    def test_shaped_it_is_the_same(self):
        for g, h in ((1, 2), (9, 10), (1, 10), (3, 7)):
            row = [(k * 53) % 89 - 40 for k in range(18)]
            calls = [begin(3, 2, g, h), fill(1, *row)]
            for by in ((1, 2, -3), (4, 4, 4), (1000, -1000, 0)):
                for s in range(3):
                    for x in range(2):
                        told = ask(*calls, leastrow(1, s, x), shape(1, *by), leastrow(1, s, x))
                        self.assertEqual(told[3], [0])
                        self.assertEqual(told[2], told[4])

    def test_shaped_by_the_same_number_everywhere(self):
        calls = [SMALL, fill(0, 3, 0, 0, -4), shape(0, 7, 7), potof(0)]
        self.assertEqual(last(*calls), [2, 8, 1, 22, 1])

    def test_one_act(self):
        calls = [SMALL, fill(0, 1, 2, 3, 4), leastrow(0, 0, 0), leastrow(0, 1, 0)]
        self.assertEqual(ask(*calls)[2:], [[2, 0, 1, 4, 1], [2, -4, 1, 0, 1]])

    def test_at_the_bounds_of_pays(self):
        calls = [begin(2, 1, 1, 10), fill(0, -1000, 1000, -1000, 1000), scale(0, 100)]
        self.assertEqual(last(*calls, least(0, 0, 0, 1)), [0, 2000000, 9])
        self.assertEqual(last(*calls, least(0, 1, 0, 0)), [0, -2000000, 9])

    def test_no_such_place(self):
        for t in (2, 3, MOST):
            self.assertEqual(last(*START, least(t, 0, 0, 0)), [-2])
            self.assertEqual(last(*START, leastrow(t, 0, 0)), [-2])
        for k in (2, 3, MOST):
            self.assertEqual(last(*START, least(0, k, 0, 0)), [-2])
            self.assertEqual(last(*START, least(0, 0, k, 0)), [-2])
            self.assertEqual(last(*START, least(0, 0, 0, k)), [-2])
            self.assertEqual(last(*START, leastrow(0, k, 0)), [-2])
            self.assertEqual(last(*START, leastrow(0, 0, k)), [-2])

    def test_no_such_act_where_there_are_such_places(self):
        calls = [begin(4, 1, 1, 2)]
        self.assertEqual(last(*calls, least(0, 0, 1, 0)), [-2])
        self.assertEqual(last(*calls, leastrow(0, 0, 1)), [-2])
        self.assertEqual(last(*calls, leastrow(0, 3, 0)), [4] + [0, 1] * 4)

    def test_changes_nothing(self):
        calls = START + [least(0, 0, 0, 1), leastrow(0, 0, 0), least(0, 0, 0, 1), leastrow(0, 0, 0)]
        told = ask(*calls)[2:]
        self.assertEqual(told[:2], told[2:])


if __name__ == "__main__":
    unittest.main()
