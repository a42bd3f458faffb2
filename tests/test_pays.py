"""Promise 1: set, fill, payis, copy."""

import unittest

from tests.calls import TEN_TO_30, ask, begin, copy, fill, last, payis, put, scale, shape, table

MOST = 4294967295
SMALL = begin(2, 1, 1, 2)
LARGE = begin(4, 3, 9, 10)
# Each of the numbers beyond what a row may hold, both ways.
BEYOND = (1001, -1001, 100000, -100000, TEN_TO_30, -TEN_TO_30)


def no_such_places(n, m):
    """Tables, places, acts and next places of which one isn't there."""
    found = []
    for t in (2, 3, MOST):
        found.append((t, 0, 0, 0))
    for place in (n, n + 1, MOST):
        found.append((0, place, 0, 0))
        found.append((1, 0, 0, place))
    for act in (m, m + 1, MOST):
        found.append((1, 0, act, 0))
    return found


class Set(unittest.TestCase):
    def test_answers_what_it_was(self):
        calls = [SMALL, put(0, 1, 0, 0, 7), put(0, 1, 0, 0, -8), payis(0, 1, 0, 0)]
        self.assertEqual(ask(*calls), [[4], [0, 0], [0, 7], [0, -8]])

    def test_what_it_was_below_0(self):
        self.assertEqual(last(SMALL, put(1, 0, 0, 1, -3), put(1, 0, 0, 1, 0)), [0, -3])

    def test_what_it_was_beyond_what_a_row_holds(self):
        calls = [SMALL, put(0, 0, 0, 1, -1000), scale(0, 100), put(0, 0, 0, 1, 1), payis(0, 0, 0, 1)]
        self.assertEqual(ask(*calls)[2:], [[0], [0, -100000], [0, 1]])

    def test_changes_one_pay_alone(self):
        for n, m in ((2, 1), (2, 3), (4, 1), (4, 3), (3, 2)):
            for t in (0, 1):
                for s in range(n):
                    for x in range(m):
                        for q in range(n):
                            calls = [begin(n, m, 1, 2), put(t, s, x, q, 5)]
                            want = [0] * (n * m * n)
                            self.assertEqual(table(calls, 1 - t, n, m), want)
                            want[s * m * n + x * n + q] = 5
                            self.assertEqual(table(calls, t, n, m), want)

    def test_at_the_bounds(self):
        for pay in (1000, -1000, 0, 999, -999):
            self.assertEqual(ask(SMALL, put(0, 1, 0, 1, pay), payis(0, 1, 0, 1))[1:], [[0, 0], [0, pay]])

    def test_row_that_is_refused(self):
        rows = [(), (1, 2), (0, 0, 0), (1, 2, 3, 4), (1, 1001)] + [(pay,) for pay in BEYOND]
        for row in rows:
            calls = [SMALL, put(0, 1, 0, 1, 6), put(0, 1, 0, 1, *row)]
            self.assertEqual(last(*calls), [-22], row)
            self.assertEqual(table(calls, 0, 2, 1), [0, 0, 0, 6], row)
            self.assertEqual(table(calls, 1, 2, 1), [0] * 4, row)

    def test_no_such_place(self):
        for start, n, m in ((SMALL, 2, 1), (LARGE, 4, 3)):
            for where in no_such_places(n, m):
                self.assertEqual(last(start, put(*where, 5)), [-2], where)
                self.assertEqual(table([start, put(*where, 5)], 0, n, m), [0] * (n * m * n))
                self.assertEqual(table([start, put(*where, 5)], 1, n, m), [0] * (n * m * n))

    def test_no_such_place_stands_ahead_of_the_row(self):
        for where in no_such_places(2, 1):
            for row in ((), (1, 2), (1001,), (-TEN_TO_30,)):
                self.assertEqual(last(SMALL, put(*where, *row)), [-2], (where, row))


class Fill(unittest.TestCase):
    def test_by_places_then_acts_then_next_places(self):
        row = list(range(1, 19))
        calls = [begin(3, 2, 1, 2), fill(1, *row)]
        self.assertEqual(ask(*calls), [[18], [0]])
        self.assertEqual(last(*calls, payis(1, 0, 0, 1)), [0, 2])
        self.assertEqual(last(*calls, payis(1, 0, 1, 0)), [0, 4])
        self.assertEqual(last(*calls, payis(1, 1, 0, 0)), [0, 7])
        self.assertEqual(last(*calls, payis(1, 2, 1, 2)), [0, 18])
        self.assertEqual(table(calls, 1, 3, 2), row)
        self.assertEqual(table(calls, 0, 3, 2), [0] * 18)

    def test_smallest_and_largest(self):
        for n, m in ((2, 1), (4, 3)):
            row = [(-1) ** k * (1000 - k) for k in range(n * m * n)]
            for t in (0, 1):
                calls = [begin(n, m, 1, 2), fill(t, *row)]
                self.assertEqual(last(*calls), [0])
                self.assertEqual(table(calls, t, n, m), row)
                self.assertEqual(table(calls, 1 - t, n, m), [0] * (n * m * n))

    def test_comes_in_the_place_of_what_was(self):
        calls = [SMALL, fill(0, 1, 2, 3, 4), fill(0, 9, 8, 7, 6)]
        self.assertEqual(table(calls, 0, 2, 1), [9, 8, 7, 6])

    def test_a_later_set_changes_it(self):
        calls = [SMALL, fill(0, 1, 2, 3, 4), put(0, 0, 0, 1, 9)]
        self.assertEqual(last(*calls), [0, 2])
        self.assertEqual(table(calls, 0, 2, 1), [1, 9, 3, 4])

    def test_at_the_bounds(self):
        calls = [SMALL, fill(0, 1000, -1000, 1000, -1000)]
        self.assertEqual(last(*calls), [0])
        self.assertEqual(table(calls, 0, 2, 1), [1000, -1000, 1000, -1000])

    def test_row_of_another_length(self):
        for start, size, n, m in ((SMALL, 4, 2, 1), (LARGE, 48, 4, 3), (begin(3, 2, 1, 2), 18, 3, 2)):
            for length in (0, 1, size - 1, size + 1, 50):
                calls = [start, fill(1, *[3] * size), fill(1, *[7] * length)]
                self.assertEqual(last(*calls), [-22], length)
                self.assertEqual(table(calls, 1, n, m), [3] * size)

    def test_one_number_beyond_the_bounds(self):
        for pay in BEYOND:
            for k in range(4):
                row = [7] * 4
                row[k] = pay
                calls = [SMALL, fill(0, 1, 2, 3, 4), fill(0, *row)]
                self.assertEqual(last(*calls), [-22], row)
                self.assertEqual(table(calls, 0, 2, 1), [1, 2, 3, 4])
        row = [0] * 47 + [-1001]
        self.assertEqual(last(LARGE, fill(0, *row)), [-22])

    def test_no_such_table(self):
        for t in (2, 3, MOST):
            self.assertEqual(last(SMALL, fill(t, 1, 2, 3, 4)), [-2])
            self.assertEqual(table([SMALL, fill(t, 1, 2, 3, 4)], 0, 2, 1), [0] * 4)
            self.assertEqual(table([SMALL, fill(t, 1, 2, 3, 4)], 1, 2, 1), [0] * 4)

    def test_no_such_table_stands_ahead_of_the_row(self):
        for row in ((), (1, 2, 3), (1, 2, 3, 4, 5), (1, 2, 3, TEN_TO_30)):
            self.assertEqual(last(SMALL, fill(2, *row)), [-2], row)


class Payis(unittest.TestCase):
    def test_of_each_table(self):
        calls = [SMALL, fill(0, 1, -2, 3, -4), fill(1, 5, 6, -7, 8)]
        self.assertEqual(last(*calls, payis(0, 0, 0, 1)), [0, -2])
        self.assertEqual(last(*calls, payis(1, 0, 0, 1)), [0, 6])
        self.assertEqual(last(*calls, payis(0, 1, 0, 0)), [0, 3])
        self.assertEqual(last(*calls, payis(1, 1, 0, 0)), [0, -7])

    def test_the_last_of_all(self):
        self.assertEqual(last(LARGE, put(1, 3, 2, 3, 11), payis(1, 3, 2, 3)), [0, 11])

    def test_no_such_place(self):
        for start, n, m in ((SMALL, 2, 1), (begin(3, 2, 1, 2), 3, 2), (LARGE, 4, 3)):
            for where in no_such_places(n, m):
                self.assertEqual(last(start, payis(*where)), [-2], where)


class Copy(unittest.TestCase):
    FILLED = [SMALL, fill(0, 1, 2, 3, 4), fill(1, 5, 6, 7, 8)]

    def test_becomes_as_the_other_one_is(self):
        for t, want in ((0, [5, 6, 7, 8]), (1, [1, 2, 3, 4])):
            calls = self.FILLED + [copy(t)]
            self.assertEqual(last(*calls), [0])
            self.assertEqual(table(calls, 0, 2, 1), want)
            self.assertEqual(table(calls, 1, 2, 1), want)

    def test_both_change_by_themselves_afterwards(self):
        for t in (0, 1):
            for changed in (0, 1):
                calls = self.FILLED + [copy(t), put(changed, 0, 0, 0, 99)]
                same = [5, 6, 7, 8] if t == 0 else [1, 2, 3, 4]
                self.assertEqual(table(calls, 1 - changed, 2, 1), same)
                self.assertEqual(table(calls, changed, 2, 1), [99] + same[1:])
                calls = self.FILLED + [copy(t), shape(changed, 1, 0)]
                self.assertEqual(table(calls, 1 - changed, 2, 1), same)

    def test_of_pays_beyond_what_a_row_holds(self):
        calls = [SMALL, fill(0, 1000, -1000, 0, 1), scale(0, 100), copy(1)]
        self.assertEqual(table(calls, 1, 2, 1), [100000, -100000, 0, 100])

    def test_no_such_table(self):
        for t in (2, 3, MOST):
            calls = self.FILLED + [copy(t)]
            self.assertEqual(last(*calls), [-2])
            self.assertEqual(table(calls, 0, 2, 1), [1, 2, 3, 4])
            self.assertEqual(table(calls, 1, 2, 1), [5, 6, 7, 8])


if __name__ == "__main__":
    unittest.main()
