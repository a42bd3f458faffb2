"""Promise 1: begin, and what holds of all calls before it and behind it."""

import unittest

from tests.calls import (
    TEN_TO_30, alike, ask, begin, copy, differ, factor, far, fill, gap, ifset, last, least, leastrow, path, payis,
    potentials, potof, put, scale, shape, swap, table, trivial,
)

MOST = 4294967295

# One call of each sort, begin aside, with arguments that would do for 2 places and 1 act.
OTHERS = [
    put(0, 0, 0, 0, 5), fill(0, 1, 2, 3, 4), payis(0, 0, 0, 0), copy(0), shape(0, 1, 2), scale(0, 2),
    potof(0), least(0, 0, 0, 0), leastrow(0, 0, 0),
    alike(), potentials(), factor(), far(), differ(), path(0, 0, 0, 1), gap(0, 0, 1), swap(), ifset(0, 0, 0, 0, 5),
    trivial(0),
]


class BeginAnswers(unittest.TestCase):
    def test_how_many_pays_a_table_has(self):
        for n in (2, 3, 4):
            for m in (1, 2, 3):
                self.assertEqual(ask(begin(n, m, 1, 2)), [[n * m * n]])

    def test_every_counting(self):
        for g in range(0, 12):
            for h in range(0, 13):
                want = [12] if 1 <= g < h <= 10 else [-22]
                self.assertEqual(ask(begin(2, 3, g, h)), [want], (g, h))

    def test_places_and_acts_out_of_bounds(self):
        for n in (0, 1, 5, MOST):
            self.assertEqual(ask(begin(n, 1, 1, 2)), [[-22]], n)
        for m in (0, 4, MOST):
            self.assertEqual(ask(begin(2, m, 1, 2)), [[-22]], m)

    def test_counting_far_out_of_bounds(self):
        for g, h in ((MOST, MOST), (1, MOST), (MOST, 10), (0, 1), (10, 11), (9, 9), (10, 10)):
            self.assertEqual(ask(begin(2, 1, g, h)), [[-22]], (g, h))

    def test_all_pays_are_0(self):
        for n in (2, 3, 4):
            for m in (1, 2, 3):
                for t in (0, 1):
                    self.assertEqual(table([begin(n, m, 1, 2)], t, n, m), [0] * (n * m * n))


class BeforeBegin(unittest.TestCase):
    def test_each_other_call(self):
        for call in OTHERS:
            self.assertEqual(ask(call), [[-11]], call)

    def test_all_in_one_list(self):
        self.assertEqual(ask(*OTHERS), [[-11]] * len(OTHERS))
        # Each one has another one behind it now, so that its length counts.
        self.assertEqual(ask(*reversed(OTHERS)), [[-11]] * len(OTHERS))

    def test_whatever_is_handed_in(self):
        calls = [
            put(MOST, MOST, MOST, MOST), put(2, 0, 0, 0, 1, 2, 3, 4), fill(7), fill(0, *[-TEN_TO_30] * 50),
            payis(MOST, 0, 0, 0), copy(2), shape(0, 1, 2, 3, 4, 5, TEN_TO_30), shape(2), scale(2, 0),
            scale(0, MOST), potof(MOST), least(0, 4, 0, 0), leastrow(0, 0, 3),
            path(2), path(0, *[MOST] * 15), gap(), gap(*[MOST] * 15), ifset(2, 9, 9, 9),
            ifset(0, 0, 0, 0, *[TEN_TO_30] * 4), trivial(5), trivial(MOST),
        ]
        self.assertEqual(ask(*calls), [[-11]] * len(calls))

    def test_a_refused_begin_begins_nothing(self):
        for call in OTHERS:
            self.assertEqual(ask(begin(1, 1, 1, 2), call), [[-22], [-11]], call)
        self.assertEqual(
            ask(payis(0, 0, 0, 0), begin(2, 1, 2, 2), payis(0, 0, 0, 0), begin(2, 1, 1, 2), payis(0, 0, 0, 0)),
            [[-11], [-22], [-11], [4], [0, 0]],
        )


class BeginAgain(unittest.TestCase):
    def test_all_is_new(self):
        calls = [begin(2, 1, 1, 2), fill(0, 1, 2, 3, 4), fill(1, 5, 6, 7, 8), begin(2, 1, 1, 2)]
        self.assertEqual(table(calls, 0, 2, 1), [0] * 4)
        self.assertEqual(table(calls, 1, 2, 1), [0] * 4)

    def test_more_places_and_acts(self):
        calls = [begin(2, 1, 1, 2), payis(0, 2, 0, 0), payis(0, 0, 1, 0), begin(3, 2, 1, 2)]
        self.assertEqual(ask(*calls, payis(0, 2, 1, 2)), [[4], [-2], [-2], [18], [0, 0]])

    def test_fewer_places_and_acts(self):
        calls = [begin(4, 3, 1, 2), put(1, 3, 2, 3, 9), begin(2, 1, 1, 2)]
        self.assertEqual(last(*calls, payis(1, 1, 0, 1)), [0, 0])
        self.assertEqual(last(*calls, payis(1, 2, 0, 1)), [-2])
        self.assertEqual(last(*calls, payis(1, 1, 1, 1)), [-2])
        self.assertEqual(last(*calls, payis(1, 1, 0, 2)), [-2])

    def test_another_counting(self):
        calls = [begin(2, 1, 1, 2), begin(2, 1, 2, 5), fill(0, 3, 0, 0, 6)]
        self.assertEqual(last(*calls, potof(0)), [2, -5, 1, -10, 1])

    def test_refused_it_leaves_all_as_it_was(self):
        calls = [begin(2, 1, 2, 5), fill(0, 3, 1, -2, 6), fill(1, 8, 7, 6, 5)]
        for refused in (begin(4, 3, 2, 2), begin(1, 3, 1, 2), begin(3, 4, 1, 2), begin(3, 2, 0, 9), begin(3, 2, 9, 11)):
            self.assertEqual(last(*calls, refused), [-22])
            self.assertEqual(table(calls + [refused], 0, 2, 1), [3, 1, -2, 6])
            self.assertEqual(table(calls + [refused], 1, 2, 1), [8, 7, 6, 5])
            self.assertEqual(last(*calls, refused, potof(0)), [2, -5, 1, -10, 1])
            self.assertEqual(last(*calls, refused, payis(0, 2, 0, 0)), [-2])
            self.assertEqual(last(*calls, refused, payis(0, 0, 1, 0)), [-2])


if __name__ == "__main__":
    unittest.main()
