"""Promise 2: shape, scale."""

import unittest

from tests.calls import TEN_TO_30, ask, begin, copy, fill, last, payis, put, scale, shape, table

MOST = 4294967295
SMALL = begin(2, 1, 1, 2)
LARGE = begin(4, 3, 9, 10)
BEYOND = (1001, -1001, 100000, -100000, TEN_TO_30, -TEN_TO_30)


class Shape(unittest.TestCase):
    def test_by_hand(self):
        # Counted 1 by 2 the potentials are 6 and 10: 3 and 5 come in, 6 and 10 go off.
        calls = [SMALL, fill(0, 100, 200, 300, 400), shape(0, 3, 5)]
        self.assertEqual(last(*calls), [0])
        self.assertEqual(table(calls, 0, 2, 1), [97, 199, 293, 395])
        self.assertEqual(table(calls, 1, 2, 1), [0] * 4)

    def test_by_hand_with_acts(self):
        calls = [begin(2, 2, 2, 5), fill(1, 1, 2, 3, 4, 5, 6, 7, 8), shape(1, -1, 10)]
        self.assertEqual(last(*calls), [0])
        self.assertEqual(table(calls, 1, 2, 2), [4, 27, 6, 29, -47, -24, -45, -22])
        self.assertEqual(table(calls, 0, 2, 2), [0] * 8)

    def test_each_counting(self):
        row = [7, -3, 0, 1000]
        for h in range(2, 11):
            for g in range(1, h):
                calls = [begin(4, 3, g, h), shape(1, *row)]
                want = [g * row[q] - h * row[s] for s in range(4) for x in range(3) for q in range(4)]
                self.assertEqual(table(calls, 1, 4, 3), want, (g, h))

    def test_by_the_same_number_everywhere(self):
        calls = [begin(3, 1, 9, 10), fill(0, *range(9)), shape(0, 4, 4, 4)]
        self.assertEqual(table(calls, 0, 3, 1), [k - 4 for k in range(9)])

    def test_by_nothing(self):
        calls = [SMALL, fill(0, 1, 2, 3, 4), shape(0, 0, 0)]
        self.assertEqual(last(*calls), [0])
        self.assertEqual(table(calls, 0, 2, 1), [1, 2, 3, 4])

    def test_there_and_back(self):
        calls = [SMALL, fill(0, 1, 2, 3, 4), shape(0, 50, -70), shape(0, -50, 70)]
        self.assertEqual(table(calls, 0, 2, 1), [1, 2, 3, 4])

    def test_numbers_at_the_bounds(self):
        calls = [LARGE, shape(0, 1000, -1000, 1000, -1000)]
        self.assertEqual(last(*calls), [0])
        self.assertEqual(last(*calls, payis(0, 0, 0, 0)), [0, -1000])
        self.assertEqual(last(*calls, payis(0, 0, 2, 1)), [0, -19000])
        self.assertEqual(last(*calls, payis(0, 3, 1, 2)), [0, 19000])

    def test_row_that_is_refused(self):
        rows = [(), (1,), (1, 2, 3), (1, 2, 3, 4), (1, 2, 3, 4, 5, 6)]
        for beyond in BEYOND:
            rows.append((beyond, 0))
            rows.append((0, beyond))
            rows.append((beyond, beyond))
        for row in rows:
            calls = [SMALL, fill(0, 1, 2, 3, 4), shape(0, *row)]
            self.assertEqual(last(*calls), [-22], row)
            self.assertEqual(table(calls, 0, 2, 1), [1, 2, 3, 4], row)
        for length in (0, 2, 3, 5, 6):
            self.assertEqual(last(LARGE, shape(1, *[1] * length)), [-22], length)
        self.assertEqual(last(LARGE, shape(1, 1, 2, 3, 4)), [0])

    def test_brought_just_to_the_bound(self):
        # 1,000 times 99 is 99,000; by -500 and 0 place 0 pays 1,000 more to place 1.
        for sign in (1, -1):
            calls = [SMALL, put(0, 0, 0, 1, sign * 1000), scale(0, 99), shape(0, sign * -500, 0)]
            self.assertEqual(last(*calls), [0])
            self.assertEqual(last(*calls, payis(0, 0, 0, 1)), [0, sign * 100000])

    def test_brought_just_beyond_the_bound(self):
        for sign in (1, -1):
            calls = [SMALL, put(0, 0, 0, 1, sign * 1000), scale(0, 99), shape(0, sign * -500, sign * 1)]
            self.assertEqual(last(*calls), [-75])
            self.assertEqual(table(calls, 0, 2, 1), [0, sign * 99000, 0, 0])
            self.assertEqual(table(calls, 1, 2, 1), [0] * 4)

    def test_any_of_the_pays_beyond_the_bound(self):
        # Each pay in turn stands at the bound, and gains 1 or 2 by the row.
        for s in (0, 1):
            for q in (0, 1):
                calls = [SMALL, put(1, s, 0, q, 1000), scale(1, 100)]
                row = (-1, -1) if s == q else ((-1, 0) if s == 0 else (0, -1))
                self.assertEqual(last(*calls, shape(1, *row)), [-75], (s, q))
                self.assertEqual(last(*calls, shape(1, *row), payis(1, s, 0, q)), [0, 100000])

    def test_of_several_refusals_the_first(self):
        calls = [SMALL, put(0, 0, 0, 1, 1000), scale(0, 100)]
        self.assertEqual(last(*calls, shape(0, -1, 0)), [-75])
        self.assertEqual(last(*calls, shape(0, -1001, 0)), [-22])
        self.assertEqual(last(*calls, shape(0, -1, 0, 0)), [-22])
        self.assertEqual(last(*calls, copy(1), shape(2, -1, 0)), [-2])
        self.assertEqual(last(*calls, shape(2, -1001, 0)), [-2])
        self.assertEqual(last(*calls, shape(2)), [-2])

    def test_no_such_table(self):
        for t in (2, 3, MOST):
            calls = [SMALL, fill(0, 1, 2, 3, 4), shape(t, 1, 2)]
            self.assertEqual(last(*calls), [-2])
            self.assertEqual(table(calls, 0, 2, 1), [1, 2, 3, 4])
            self.assertEqual(table(calls, 1, 2, 1), [0] * 4)


class Scale(unittest.TestCase):
    def test_each_pay(self):
        calls = [SMALL, fill(0, 1, -2, 0, 4), fill(1, 5, 6, 7, 8), scale(0, 3)]
        self.assertEqual(last(*calls), [0])
        self.assertEqual(table(calls, 0, 2, 1), [3, -6, 0, 12])
        self.assertEqual(table(calls, 1, 2, 1), [5, 6, 7, 8])

    def test_the_largest_table(self):
        row = [k - 24 for k in range(48)]
        calls = [LARGE, fill(1, *row), scale(1, 7)]
        self.assertEqual(table(calls, 1, 4, 3), [7 * pay for pay in row])
        self.assertEqual(table(calls, 0, 4, 3), [0] * 48)

    def test_c_at_the_bounds(self):
        self.assertEqual(table([SMALL, fill(0, 1, -2, 0, 4), scale(0, 1)], 0, 2, 1), [1, -2, 0, 4])
        calls = [SMALL, fill(0, 1, -2, 0, 4), scale(0, 100)]
        self.assertEqual(last(*calls), [0])
        self.assertEqual(table(calls, 0, 2, 1), [100, -200, 0, 400])

    def test_c_beyond_the_bounds(self):
        for c in (0, 101, MOST):
            calls = [SMALL, fill(0, 1, -2, 0, 4), scale(0, c)]
            self.assertEqual(last(*calls), [-22], c)
            self.assertEqual(table(calls, 0, 2, 1), [1, -2, 0, 4])
            self.assertEqual(last(SMALL, scale(1, c)), [-22], c)

    def test_brought_just_to_the_bound(self):
        for sign in (1, -1):
            calls = [SMALL, put(0, 1, 0, 0, sign * 1000), scale(0, 100)]
            self.assertEqual(last(*calls), [0])
            self.assertEqual(last(*calls, payis(0, 1, 0, 0)), [0, sign * 100000])
            self.assertEqual(ask(*calls, scale(0, 1), payis(0, 1, 0, 0))[3:], [[0], [0, sign * 100000]])

    def test_brought_just_beyond_the_bound(self):
        # 100,001 is 11 times 9,091, and 9,091 is made by shape.
        for sign in (1, -1):
            calls = [SMALL, put(0, 0, 0, 1, sign * 909), scale(0, 10), shape(0, 0, sign * 1)]
            self.assertEqual(last(*calls, payis(0, 0, 0, 1)), [0, sign * 9091])
            before = table(calls, 0, 2, 1)
            self.assertEqual(last(*calls, scale(0, 11)), [-75])
            self.assertEqual(table(calls + [scale(0, 11)], 0, 2, 1), before)
            self.assertEqual(last(*calls, scale(0, 10)), [0])

    def test_any_of_the_pays_beyond_the_bound(self):
        for k in range(4):
            for pay in (600, -600):
                row = [0] * 4
                row[k] = pay
                calls = [SMALL, fill(1, *row), scale(1, 100), scale(1, 2)]
                self.assertEqual(last(*calls), [-75], row)
                self.assertEqual(table(calls, 1, 2, 1), [100 * number for number in row])

    def test_of_several_refusals_the_first(self):
        calls = [SMALL, put(0, 1, 0, 0, 1000), scale(0, 100)]
        self.assertEqual(last(*calls, scale(0, 2)), [-75])
        self.assertEqual(last(*calls, scale(0, 101)), [-22])
        self.assertEqual(last(*calls, scale(2, 101)), [-2])
        self.assertEqual(last(*calls, scale(2, 0)), [-2])

    def test_no_such_table(self):
        for t in (2, 3, MOST):
            calls = [SMALL, fill(0, 1, 2, 3, 4), scale(t, 2)]
            self.assertEqual(last(*calls), [-2])
            self.assertEqual(table(calls, 0, 2, 1), [1, 2, 3, 4])


if __name__ == "__main__":
    unittest.main()
