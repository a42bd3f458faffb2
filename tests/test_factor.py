"""Promise 4: factor, far, differ."""

import unittest

from tests.calls import (
    alike, ask, begin, copy, differ, factor, far, fill, last, least, put, scale, shape, swap,
)

SMALL = begin(2, 1, 1, 2)
# Its least form is 0, 7/3, 2, -20/3, 47/3, 0, 26/3, 6.
ROW = [3, 10, 5, 1, 7, -4, 0, 2]
START = [begin(2, 2, 2, 5), fill(0, *ROW)]


class Factor(unittest.TestCase):
    def test_tables_of_0(self):
        self.assertEqual(last(SMALL, factor()), [0, 1, 1])
        self.assertEqual(last(begin(4, 3, 9, 10), factor()), [0, 1, 1])

    def test_both_least_forms_0(self):
        for g, h in ((1, 2), (9, 10), (3, 7)):
            calls = [begin(3, 2, g, h), shape(0, 1, 2, 3)]
            self.assertEqual(last(*calls, factor()), [0, 1, 1])
            self.assertEqual(last(*calls, swap(), factor()), [0, 1, 1])
            self.assertEqual(last(*calls, shape(1, 9, -8, 7), factor()), [0, 1, 1])
            # No factor is told of potentials, though they are scaled.
            self.assertEqual(last(*calls, copy(1), scale(1, 5), factor()), [0, 1, 1])

    def test_alike(self):
        self.assertEqual(last(*START, copy(1), factor()), [0, 1, 1])
        self.assertEqual(last(*START, copy(1), shape(1, 3, -8), factor()), [0, 1, 1])

    def test_a_whole_number(self):
        for c in (1, 2, 7, 100):
            self.assertEqual(last(*START, copy(1), scale(1, c), factor()), [0, c, 1])

    def test_a_fraction(self):
        self.assertEqual(last(*START, copy(1), scale(0, 3), factor()), [0, 1, 3])
        self.assertEqual(last(*START, copy(1), scale(0, 2), scale(1, 3), factor()), [0, 3, 2])
        self.assertEqual(last(*START, copy(1), scale(0, 6), scale(1, 4), factor()), [0, 2, 3])
        self.assertEqual(last(*START, copy(1), scale(0, 100), scale(1, 99), factor()), [0, 99, 100])

    def test_shaped_besides(self):
        calls = START + [copy(1), scale(0, 2), scale(1, 3), shape(0, 50, -60), shape(1, -7, 1000)]
        self.assertEqual(ask(*calls, factor(), alike())[7:], [[0, 3, 2], [0]])

    def test_of_pays_below_0(self):
        calls = [SMALL, fill(0, 0, -4, -6, 0), fill(1, 0, -6, -9, 0)]
        self.assertEqual(last(*calls, factor()), [0, 3, 2])
        calls = [SMALL, fill(0, 0, -4, 6, 0), fill(1, 0, -6, 9, 0)]
        self.assertEqual(last(*calls, factor()), [0, 3, 2])

    def test_of_the_least_pays(self):
        for pay in (1, -1):
            calls = [SMALL, put(0, 0, 0, 1, pay), put(1, 0, 0, 1, pay)]
            self.assertEqual(last(*calls, factor()), [0, 1, 1])
            self.assertEqual(last(*calls, scale(1, 2), factor()), [0, 2, 1])

    def test_one_least_form_is_0(self):
        for more in ([], [shape(0, 4, 5)], [shape(1, 4, 5)]):
            calls = [SMALL, put(0, 0, 0, 1, 6)] + more
            self.assertEqual(last(*calls, factor()), [-33])
            self.assertEqual(last(*calls, swap(), factor()), [-33])

    def test_below_0(self):
        self.assertEqual(last(*START, fill(1, *[-pay for pay in ROW]), factor()), [-33])
        self.assertEqual(last(*START, fill(1, *[-2 * pay for pay in ROW]), factor()), [-33])
        calls = [SMALL, put(0, 0, 0, 1, 6), put(1, 0, 0, 1, -6)]
        self.assertEqual(last(*calls, factor()), [-33])
        self.assertEqual(last(*calls, swap(), factor()), [-33])

    def test_some_above_and_some_below_0(self):
        calls = [SMALL, fill(0, 0, 4, 4, 0), fill(1, 0, 4, -4, 0)]
        self.assertEqual(last(*calls, factor()), [-33])
        self.assertEqual(last(*calls, swap(), factor()), [-33])

    def test_fits_at_all_but_one(self):
        for k in range(8):
            for more in (1, -1):
                row = [2 * pay for pay in ROW]
                row[k] += more
                calls = START + [fill(1, *row)]
                self.assertEqual(last(*calls, factor()), [-33], (k, more))
                self.assertEqual(last(*calls, swap(), factor()), [-33], (k, more))

    def test_0_at_one_of_them_alone(self):
        for row in ((0, 0, 4, 0), (0, 4, 0, 0)):
            calls = [SMALL, fill(0, 0, 4, 4, 0), fill(1, *row)]
            self.assertEqual(last(*calls, factor()), [-33])
            self.assertEqual(last(*calls, swap(), factor()), [-33])
        calls = [SMALL, fill(0, 0, 4, 0, 0), fill(1, 0, 0, 4, 0)]
        self.assertEqual(last(*calls, factor()), [-33])

    def test_at_the_bound(self):
        calls = [begin(2, 1, 9, 10), fill(0, 0, 1, -1, 0), fill(1, 0, 1000, -1000, 0), scale(1, 100)]
        self.assertEqual(ask(*calls, factor(), swap(), factor())[4:], [[0, 100000, 1], [0], [0, 1, 100000]])


class Far(unittest.TestCase):
    def test_nothing(self):
        for calls in ([SMALL], START + [copy(1)], START + [copy(1), shape(1, 9, -9)]):
            self.assertEqual(last(*calls, far()), [0, 0, 1, 0, 0, 0])

    def test_by_hand(self):
        # Table 1 is 0, so it is the greatest of the least form of table 0.
        self.assertEqual(last(*START, far()), [0, 47, 3, 1, 0, 0])
        self.assertEqual(last(*START, swap(), far()), [0, 47, 3, 1, 0, 0])
        self.assertEqual(last(*START, put(0, 1, 0, 0, -1), far()), [0, 26, 3, 1, 1, 0])
        # With 0 there it's as far as it is by act 1, and comes first.
        self.assertEqual(last(*START, put(0, 1, 0, 0, 0), far()), [0, 26, 3, 1, 0, 0])

    def test_without_sign(self):
        calls = [begin(3, 2, 1, 2), put(1, 1, 0, 2, 4), put(1, 2, 1, 0, -5)]
        self.assertEqual(last(*calls, far()), [0, 5, 1, 2, 1, 0])
        self.assertEqual(last(*calls, swap(), far()), [0, 5, 1, 2, 1, 0])
        calls = [begin(3, 2, 1, 2), put(1, 1, 0, 2, 6), put(1, 2, 1, 0, -5)]
        self.assertEqual(last(*calls, far()), [0, 6, 1, 1, 0, 2])

    def test_of_both_tables(self):
        calls = [begin(2, 2, 1, 2), put(0, 0, 1, 0, -4), put(1, 0, 1, 0, 5), put(0, 1, 0, 0, 7), put(1, 1, 0, 0, 8)]
        self.assertEqual(last(*calls, far()), [0, 9, 1, 0, 1, 0])

    def test_the_first_of_several(self):
        # In the order of places, then acts, then next places; by turns above and below 0.
        spots = [(s, x, q) for s in range(3) for x in range(2) for q in range(3) if x != 0 or s != q]
        for first in range(len(spots)):
            calls = [begin(3, 2, 1, 2)]
            for k in range(len(spots) - 1, first - 1, -1):
                calls.append(put(k % 2, *spots[k], 5))
            self.assertEqual(last(*calls, far()), [0, 5, 1, *spots[first]])

    def test_a_greater_one_behind(self):
        calls = [begin(2, 2, 1, 2), put(1, 0, 0, 1, 5), put(1, 0, 1, 1, 6), put(1, 1, 1, 0, -6), put(1, 1, 1, 1, 4)]
        self.assertEqual(last(*calls, far()), [0, 6, 1, 0, 1, 1])

    def test_a_stay_by_act_0(self):
        # The potential is -2 then: place 0 is left for 2 less, and reached for 1 more.
        calls = [SMALL, put(1, 0, 0, 0, 1)]
        self.assertEqual(last(*calls, far()), [0, 2, 1, 0, 0, 1])
        calls = [SMALL, put(1, 1, 0, 1, 1)]
        self.assertEqual(last(*calls, far()), [0, 2, 1, 1, 0, 0])

    def test_one_pay_apart(self):
        for n, m in ((2, 1), (4, 3)):
            for s in range(n):
                for x in range(m):
                    for q in range(n):
                        if x == 0 and s == q:
                            continue
                        calls = [begin(n, m, 9, 10), put(0, s, x, q, 8), copy(1), put(1, s, x, q, 5)]
                        self.assertEqual(last(*calls, far()), [0, 3, 1, s, x, q])

    def test_shaped_besides(self):
        calls = START + [copy(1), put(1, 1, 1, 1, 9), shape(0, 30, -20), shape(1, 500, 600)]
        self.assertEqual(last(*calls, far()), [0, 7, 1, 1, 1, 1])

    def test_at_the_bound(self):
        calls = [begin(2, 1, 9, 10), fill(0, 1000, 1000, 1000, -1000), fill(1, -1000, -1000, -1000, 1000)]
        calls += [scale(0, 100), scale(1, 100)]
        # The potentials are apart by 2,000,000 and -2,000,000.
        self.assertEqual(last(*calls, far()), [0, 4000000, 1, 1, 0, 0])
        self.assertEqual(last(*calls, least(0, 1, 0, 0)), [0, 2000000, 1])
        self.assertEqual(last(*calls, least(1, 1, 0, 0)), [0, -2000000, 1])


class Differ(unittest.TestCase):
    def test_nothing(self):
        for calls in ([SMALL], START + [copy(1)], START + [copy(1), shape(1, 9, -9)]):
            self.assertEqual(last(*calls, differ()), [0])

    def test_one_pay(self):
        for s in range(3):
            for x in range(2):
                for q in range(3):
                    calls = [begin(3, 2, 1, 2), put(1, s, x, q, -3)]
                    # A stay by act 0 tells in all pays from there and to there, but in its own.
                    want = 9 if x == 0 and s == q else 1
                    self.assertEqual(last(*calls, differ()), [want], (s, x, q))
                    self.assertEqual(last(*calls, swap(), differ()), [want], (s, x, q))

    def test_all_but_stays_by_act_0(self):
        for n in (2, 3, 4):
            for m in (1, 2, 3):
                row = [1 if x > 0 or s != q else 0 for s in range(n) for x in range(m) for q in range(n)]
                self.assertEqual(last(begin(n, m, 9, 10), fill(0, *row), differ()), [n * m * n - n])

    def test_of_both_tables(self):
        calls = [begin(2, 2, 1, 2), put(0, 0, 1, 0, 4), put(1, 0, 1, 0, 4), put(0, 1, 1, 0, 4), put(1, 0, 1, 1, 5)]
        self.assertEqual(last(*calls, differ()), [2])

    def test_scaled(self):
        self.assertEqual(last(*START, copy(1), scale(1, 2), differ()), [6])

    def test_shaped_besides(self):
        calls = START + [copy(1), put(1, 1, 1, 1, 9), put(1, 0, 1, 0, 9), shape(0, 30, -20), shape(1, 500, 600)]
        self.assertEqual(last(*calls, differ()), [2])


if __name__ == "__main__":
    unittest.main()
