"""Promise 4: path, gap."""

import unittest
from fractions import Fraction

from tests.calls import ask, begin, copy, fill, gap, last, path, put, scale, shape, swap

MOST = 4294967295
SMALL = begin(2, 1, 1, 2)
START = [begin(2, 2, 2, 5), fill(0, 3, 10, 5, 1, 7, -4, 0, 2), fill(1, 1, 2, 3, 4, 5, 6, 7, 8)]
SIX = (0, 0, 1, 1, 0, 1, 1, 0, 0, 0, 0, 1, 1)

NO_PATHS = [
    (), (0, 0), (0, 0, 0, 0), (0, 0, 0, 0, 0, 0), (0,) * 8, (0,) * 10, (0,) * 12, (0,) * 14, (0,) * 15,
    (2,), (3,), (MOST,), (2, 0, 0), (0, 2, 0), (0, 0, 2), (0, MOST, 0), (0, 0, MOST), (MOST, MOST, MOST),
    (0, 0, 0, 0, 2), (0, 0, 0, 2, 0), (0, 0, 2, 0, 0),
    (0,) * 12 + (2,), (0,) * 11 + (2, 0), (2,) + (0,) * 12, (0, 2) + (0,) * 11,
]


def paid(pays, n, m, counted, row):
    """What a path pays, by the document's words."""
    total = Fraction(0)
    for step in range(len(row) // 2):
        s, x, q = row[2 * step:2 * step + 3]
        total += pays[s * m * n + x * n + q] * counted ** step
    return [0, total.numerator, total.denominator]


class Path(unittest.TestCase):
    def test_no_acts(self):
        for s in (0, 1):
            self.assertEqual(last(*START, path(0, s)), [0, 0, 1])
            self.assertEqual(last(*START, path(1, s)), [0, 0, 1])
        for s in range(4):
            self.assertEqual(last(begin(4, 1, 9, 10), fill(0, *[7] * 16), path(0, s)), [0, 0, 1])

    def test_one_act_is_counted_in_full(self):
        pays = [[3, 10, 5, 1, 7, -4, 0, 2], [1, 2, 3, 4, 5, 6, 7, 8]]
        for t in (0, 1):
            for s in (0, 1):
                for x in (0, 1):
                    for q in (0, 1):
                        self.assertEqual(last(*START, path(t, s, x, q)), [0, pays[t][s * 4 + x * 2 + q], 1])

    def test_two_acts(self):
        self.assertEqual(last(*START, path(0, 1, 0, 0, 1, 1)), [0, 37, 5])
        self.assertEqual(last(*START, path(0, 0, 1, 1, 0, 0)), [0, 19, 5])
        self.assertEqual(last(*START, path(1, 1, 0, 0, 1, 1)), [0, 33, 5])

    def test_three_acts(self):
        # 7, 2 by 5 of 10, 4 by 25 of -4.
        self.assertEqual(last(*START, path(0, 1, 0, 0, 0, 1, 0, 1)), [0, 259, 25])

    def test_below_0(self):
        self.assertEqual(last(*START, path(0, 1, 0, 1)), [0, -4, 1])
        self.assertEqual(last(*START, path(0, 1, 0, 1, 0, 1)), [0, -28, 5])

    def test_nothing_in_common(self):
        self.assertEqual(last(SMALL, fill(0, 2, 0, 0, 0), path(0, 0, 0, 0, 0, 0)), [0, 3, 1])
        self.assertEqual(last(SMALL, fill(0, 2, 0, 0, 0), path(0, 0, 0, 0, 0, 0, 0, 0)), [0, 7, 2])
        self.assertEqual(last(SMALL, fill(0, 1, 0, -2, 0), path(0, 1, 0, 0, 0, 0, 0, 0)), [0, -5, 4])
        # What comes together to nothing is 0, 1.
        self.assertEqual(last(SMALL, fill(0, 2, 0, -1, 0), path(0, 1, 0, 0, 0, 0)), [0, 0, 1])
        # 4 by 6 is counted as 2 by 3 would be.
        self.assertEqual(last(begin(2, 1, 4, 6), fill(0, 1, 0, 0, 0), path(0, 0, 0, 0, 0, 0)), [0, 5, 3])

    def test_six_acts(self):
        ones = [begin(2, 1, 9, 10), fill(0, 1, 1, 1, 1)]
        self.assertEqual(last(*ones, path(0, *[0] * 13)), [0, 468559, 100000])
        self.assertEqual(last(*ones, scale(0, 10), path(0, *[0] * 13)), [0, 468559, 10000])
        pays = [3, 10, 5, 1, 7, -4, 0, 2]
        self.assertEqual(last(begin(2, 2, 9, 10), fill(0, *pays), path(0, *SIX)),
                         paid(pays, 2, 2, Fraction(9, 10), SIX))

    def test_six_acts_each_counted_as_late_as_it_comes(self):
        # One act alone pays, as it is the only one by its act that goes there.
        for g, h in ((9, 10), (1, 2), (1, 10)):
            for step in range(6):
                row = [0] * 13
                row[2 * step + 1] = 1
                calls = [begin(2, 2, g, h), put(1, 0, 1, 0, 1)]
                self.assertEqual(last(*calls, path(1, *row)), [0, *(Fraction(g, h) ** step).as_integer_ratio()])

    def test_at_the_bound(self):
        calls = [begin(2, 1, 9, 10), fill(0, *[-1000] * 4), scale(0, 100)]
        self.assertEqual(last(*calls, path(0, *[0] * 13)), [0, -468559, 1])

    def test_each_length(self):
        for length in range(16):
            told = last(SMALL, fill(1, 1, 0, 0, 0), path(1, *[0] * length))
            if length % 2 == 1 and length < 15:
                want = sum(Fraction(1, 2 ** k) for k in range(length // 2))
                self.assertEqual(told, [0, *Fraction(want).as_integer_ratio()], length)
            else:
                self.assertEqual(told, [-22], length)

    def test_what_is_no_path(self):
        for row in NO_PATHS:
            self.assertEqual(last(*START, path(0, *row)), [-22], row)
            self.assertEqual(last(*START, path(1, *row)), [-22], row)

    def test_places_and_acts_are_told_apart(self):
        many_acts = [begin(2, 3, 1, 2), put(0, 0, 2, 1, 5)]
        self.assertEqual(last(*many_acts, path(0, 0, 2, 1)), [0, 5, 1])
        self.assertEqual(last(*many_acts, path(0, 2, 0, 1)), [-22])
        self.assertEqual(last(*many_acts, path(0, 0, 0, 2)), [-22])
        self.assertEqual(last(*many_acts, path(0, 0, 3, 0)), [-22])
        many_places = [begin(4, 1, 1, 2), put(0, 3, 0, 2, 5)]
        self.assertEqual(last(*many_places, path(0, 3, 0, 2)), [0, 5, 1])
        self.assertEqual(last(*many_places, path(0, 3, 1, 2)), [-22])
        self.assertEqual(last(*many_places, path(0, 4, 0, 2)), [-22])

    def test_no_such_table(self):
        for t in (2, 3, MOST):
            self.assertEqual(last(*START, path(t, 0, 0, 1)), [-2])
            self.assertEqual(last(*START, path(t, 0)), [-2])
            # It stands ahead of what is wrong with the row.
            for row in NO_PATHS:
                self.assertEqual(last(*START, path(t, *row)), [-2], row)


class Gap(unittest.TestCase):
    def test_no_acts(self):
        self.assertEqual(ask(*START, gap(0), gap(1))[3:], [[0, 0, 1]] * 2)

    def test_above_and_below_0(self):
        self.assertEqual(last(*START, gap(0, 0, 1)), [0, -8, 1])
        self.assertEqual(last(*START, gap(1, 0, 1)), [0, 10, 1])
        self.assertEqual(last(*START, swap(), gap(0, 0, 1)), [0, 8, 1])
        self.assertEqual(last(*START, swap(), gap(1, 0, 1)), [0, -10, 1])

    def test_several_acts(self):
        self.assertEqual(last(*START, gap(1, 0, 0, 1, 1)), [0, -4, 5])
        self.assertEqual(last(*START, gap(0, 1, 1, 0, 0)), [0, 11, 5])

    def test_six_acts(self):
        pays = [[3, 10, 5, 1, 7, -4, 0, 2], [-6, 2, 3, -4, 5, 6, 7, 8]]
        for g, h in ((9, 10), (1, 2)):
            calls = [begin(2, 2, g, h), fill(0, *pays[0]), fill(1, *pays[1])]
            more = [pays[1][k] - pays[0][k] for k in range(8)]
            self.assertEqual(last(*calls, gap(*SIX)), paid(more, 2, 2, Fraction(g, h), SIX))

    def test_nothing(self):
        self.assertEqual(last(SMALL, gap(0, 0, 1, 0, 0)), [0, 0, 1])
        self.assertEqual(last(*START, copy(1), gap(*SIX)), [0, 0, 1])

    def test_of_alike_tables_the_ends_count_alone(self):
        # Potentials 20 and -30: the last one counted 2 by 5 as often as there are acts.
        calls = START + [copy(1), shape(1, 4, -6)]
        self.assertEqual(last(*calls, gap(0)), [0, 0, 1])
        self.assertEqual(last(*calls, gap(0, 0, 1)), [0, -32, 1])
        self.assertEqual(last(*calls, gap(0, 0, 1, 1, 1)), [0, -124, 5])
        self.assertEqual(last(*calls, gap(0, 1, 0, 1, 1)), [0, -124, 5])
        self.assertEqual(last(*calls, gap(1, 0, 0, 1, 0)), [0, 166, 5])

    def test_at_the_bound(self):
        calls = [begin(2, 1, 9, 10), fill(0, *[-1000] * 4), fill(1, *[1000] * 4), scale(0, 100), scale(1, 100)]
        self.assertEqual(last(*calls, gap(*[0] * 13)), [0, 937118, 1])

    def test_each_length(self):
        for length in range(16):
            told = last(SMALL, fill(0, 1, 0, 0, 0), gap(*[0] * length))
            if length % 2 == 1 and length < 15:
                want = -sum(Fraction(1, 2 ** k) for k in range(length // 2))
                self.assertEqual(told, [0, *Fraction(want).as_integer_ratio()], length)
            else:
                self.assertEqual(told, [-22], length)

    def test_what_is_no_path(self):
        for row in NO_PATHS:
            self.assertEqual(last(*START, gap(*row)), [-22], row)
        self.assertEqual(last(begin(2, 3, 1, 2), gap(2, 0, 1)), [-22])
        self.assertEqual(last(begin(2, 3, 1, 2), gap(0, 2, 1)), [0, 0, 1])
        self.assertEqual(last(begin(4, 1, 1, 2), gap(3, 1, 2)), [-22])
        self.assertEqual(last(begin(4, 1, 1, 2), gap(3, 0, 2)), [0, 0, 1])


if __name__ == "__main__":
    unittest.main()
