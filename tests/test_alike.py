"""Promises 1, 3 and 4: swap, trivial, alike, potentials, ifset."""

import unittest

from tests.calls import (
    TEN_TO_30, alike, ask, begin, copy, differ, factor, far, fill, gap, ifset, last, path, payis, potentials, potof,
    put, scale, shape, swap, table, trivial,
)

MOST = 4294967295
SMALL = begin(2, 1, 1, 2)
# Counted 2 by 5, both tables filled and not alike.
START = [begin(2, 2, 2, 5), fill(0, 3, 10, 5, 1, 7, -4, 0, 2), fill(1, 1, 2, 3, 4, 5, 6, 7, 8)]
COUNTINGS = ((1, 2), (9, 10), (1, 10), (3, 7), (4, 6))


def drawn(n, m, seed):
    return [(k * 37 + seed * 11) % 101 - 50 for k in range(n * m * n)]


class Swap(unittest.TestCase):
    def test_each_is_the_other_one(self):
        calls = START + [swap()]
        self.assertEqual(last(*calls), [0])
        self.assertEqual(table(calls, 0, 2, 2), [1, 2, 3, 4, 5, 6, 7, 8])
        self.assertEqual(table(calls, 1, 2, 2), [3, 10, 5, 1, 7, -4, 0, 2])

    def test_twice(self):
        calls = START + [swap(), swap()]
        self.assertEqual(ask(*calls)[3:], [[0], [0]])
        self.assertEqual(table(calls, 0, 2, 2), [3, 10, 5, 1, 7, -4, 0, 2])
        self.assertEqual(table(calls, 1, 2, 2), [1, 2, 3, 4, 5, 6, 7, 8])

    def test_both_change_by_themselves_afterwards(self):
        calls = [SMALL, fill(0, 1, 2, 3, 4), copy(1), swap(), put(0, 0, 0, 1, 9)]
        self.assertEqual(last(*calls), [0, 2])
        self.assertEqual(table(calls, 0, 2, 1), [1, 9, 3, 4])
        self.assertEqual(table(calls, 1, 2, 1), [1, 2, 3, 4])

    def test_of_pays_at_the_bound(self):
        calls = [SMALL, fill(0, 1000, -1000, 0, 1), scale(0, 100), swap()]
        self.assertEqual(table(calls, 1, 2, 1), [100000, -100000, 0, 100])
        self.assertEqual(table(calls, 0, 2, 1), [0] * 4)

    def test_what_is_told_of_both_turns_round(self):
        calls = [begin(2, 1, 1, 3), fill(0, 5, -7, 2, 11), fill(1, 4, -7, -2, 8)]
        self.assertEqual(last(*calls, potentials()), [2, 3, 2, 9, 2])
        self.assertEqual(last(*calls, swap(), potentials()), [2, -3, 2, -9, 2])
        self.assertEqual(last(*calls, gap(0, 0, 0)), [0, -1, 1])
        self.assertEqual(last(*calls, swap(), gap(0, 0, 0)), [0, 1, 1])
        self.assertEqual(last(*calls, scale(1, 4), factor()), [0, 4, 1])
        self.assertEqual(last(*calls, scale(1, 4), swap(), factor()), [0, 1, 4])


class Trivial(unittest.TestCase):
    def test_of_tables_of_0(self):
        self.assertEqual(ask(SMALL, trivial(0), trivial(1))[1:], [[1], [1]])
        self.assertEqual(ask(begin(4, 3, 9, 10), trivial(0), trivial(1))[1:], [[1], [1]])

    def test_of_each_table(self):
        for t in (0, 1):
            told = ask(SMALL, put(t, 0, 0, 1, 1), trivial(t), trivial(1 - t))
            self.assertEqual(told[2:], [[0], [1]])

    def test_of_nothing_but_potentials(self):
        for g, h in COUNTINGS:
            calls = [begin(4, 3, g, h), shape(1, 5, -6, 0, 1000)]
            self.assertEqual(last(*calls, trivial(1)), [1])
            self.assertEqual(last(*calls, scale(1, 3), trivial(1)), [1])

    def test_of_potentials_that_are_fractions(self):
        self.assertEqual(last(begin(2, 1, 1, 3), fill(0, -1, 0, -4, -3), trivial(0)), [1])

    def test_any_one_pay_breaks_it(self):
        # A stay by act 0 as well: it makes all that comes from there and goes there pay.
        for k in range(18):
            row = [0] * 18
            row[k] = 1
            self.assertEqual(last(begin(3, 2, 1, 2), fill(0, *row), trivial(0)), [0], k)
            self.assertEqual(last(begin(3, 2, 1, 2), fill(0, *row), trivial(1)), [1], k)

    def test_with_one_act(self):
        self.assertEqual(last(SMALL, fill(0, -1, -1, -1, -1), trivial(0)), [1])
        self.assertEqual(last(SMALL, fill(0, -1, -1, -1, 0), trivial(0)), [0])

    def test_no_such_table(self):
        for t in (2, 3, MOST):
            self.assertEqual(last(SMALL, trivial(t)), [-2])
            self.assertEqual(last(*START, trivial(t)), [-2])


class Alike(unittest.TestCase):
    def test_tables_of_0(self):
        for n, m in ((2, 1), (4, 3)):
            self.assertEqual(ask(begin(n, m, 9, 10), alike(), potentials())[1:], [[1], [n] + [0, 1] * n])

    def test_not_alike(self):
        self.assertEqual(ask(*START, alike(), potentials())[3:], [[0], [-33]])

    def test_the_same(self):
        for t in (0, 1):
            self.assertEqual(ask(*START, copy(t), alike(), potentials())[4:], [[1], [2, 0, 1, 0, 1]])

    def test_shaped(self):
        for g, h in COUNTINGS:
            row = drawn(3, 2, h)
            calls = [begin(3, 2, g, h), fill(0, *row), copy(1), shape(1, 4, 0, -7)]
            self.assertEqual(ask(*calls, alike(), potentials())[4:], [[1], [3, 4 * h, 1, 0, 1, -7 * h, 1]])
            calls = [begin(3, 2, g, h), fill(0, *row), copy(1), shape(0, 4, 0, -7)]
            self.assertEqual(ask(*calls, alike(), potentials())[4:], [[1], [3, -4 * h, 1, 0, 1, 7 * h, 1]])

    def test_shaped_both(self):
        calls = [begin(2, 1, 3, 7), fill(0, 1, 2, 3, 4), copy(1), shape(0, 5, 6), shape(1, 2, 10)]
        self.assertEqual(ask(*calls, alike(), potentials())[5:], [[1], [2, -21, 1, 28, 1]])

    def test_shaped_by_the_same_number_everywhere(self):
        for g, h in COUNTINGS:
            calls = [begin(3, 1, g, h), fill(0, *range(9)), copy(1), shape(1, 6, 6, 6)]
            self.assertEqual(ask(*calls, alike(), potentials())[4:], [[1], [3] + [6 * h, 1] * 3])

    def test_by_fractions(self):
        # Counted 1 by 3 the potentials 3/2 and 9/2 come to 1/2 and 3/2.
        calls = [begin(2, 1, 1, 3), fill(0, 5, -7, 2, 11), fill(1, 4, -7, -2, 8)]
        self.assertEqual(ask(*calls, alike(), potentials())[3:], [[1], [2, 3, 2, 9, 2]])
        calls = [begin(2, 1, 1, 10), fill(1, -1, -1, -1, -1)]
        self.assertEqual(ask(*calls, alike(), potentials())[2:], [[1], [2, 10, 9, 10, 9]])

    def test_a_table_of_nothing_but_potentials(self):
        calls = [begin(4, 3, 9, 10), shape(1, 1, -2, 3, 0)]
        self.assertEqual(ask(*calls, alike(), potentials())[2:], [[1], [4, 10, 1, -20, 1, 30, 1, 0, 1]])

    def test_scaled(self):
        calls = START + [copy(1), scale(1, 2)]
        self.assertEqual(ask(*calls, alike(), potentials())[5:], [[0], [-33]])
        # What is nothing but potentials is so scaled, too.
        calls = [begin(2, 2, 2, 5), shape(0, 3, -1), copy(1), scale(1, 4)]
        self.assertEqual(ask(*calls, alike(), potentials())[4:], [[1], [2, 45, 1, -15, 1]])

    def test_alike_but_for_one_pay(self):
        for g, h in ((1, 2), (9, 10)):
            row = drawn(3, 2, g)
            for t in (0, 1):
                for k in range(18):
                    off = list(row)
                    off[k] += 1
                    calls = [begin(3, 2, g, h), fill(1 - t, *row), fill(t, *off), shape(t, 1, 2, 3)]
                    self.assertEqual(ask(*calls, alike(), potentials())[4:], [[0], [-33]], (t, k))

    def test_both_at_the_bound(self):
        calls = [begin(2, 1, 1, 2), fill(0, 1000, 1000, 1000, 1000), fill(1, -1000, -1000, -1000, -1000)]
        calls += [scale(0, 100), scale(1, 100)]
        # 200,000 less everywhere is a potential of 400,000 everywhere.
        self.assertEqual(ask(*calls, alike(), potentials())[5:], [[1], [2, 400000, 1, 400000, 1]])

    def test_the_potentials_make_table_1_of_table_0(self):
        # They are h times these, so shape takes them straight.
        calls = [begin(3, 1, 4, 6), fill(0, *drawn(3, 1, 1)), copy(1), shape(1, 9, -9, 2), shape(0, 1, 1, 0)]
        told = last(*calls, potentials())
        row = [told[k] // 6 for k in (1, 3, 5)]
        self.assertEqual(told, [3, 6 * row[0], 1, 6 * row[1], 1, 6 * row[2], 1])
        self.assertEqual(table(calls + [shape(0, *row)], 0, 3, 1), table(calls, 1, 3, 1))

    def test_a_begin_that_comes_again(self):
        calls = START + [alike(), begin(3, 1, 1, 2), alike(), potentials(), put(0, 2, 0, 1, 5), alike()]
        self.assertEqual(ask(*calls)[3:], [[0], [9], [1], [3] + [0, 1] * 3, [0, 0], [0]])


class Ifset(unittest.TestCase):
    def test_would_make_them_alike(self):
        for t in (0, 1):
            calls = START[:2] + [copy(1), shape(1, 4, -3), put(t, 1, 1, 0, 77)]
            # Shaped by 20 and -15, place 1 pays 8 and 15 more for going to place 0.
            right = 0 if t == 0 else 23
            self.assertEqual(ask(*calls, alike(), ifset(t, 1, 1, 0, right), alike())[5:], [[0], [1], [0]])
            for wrong in (right + 1, right - 1, 77):
                self.assertEqual(last(*calls, ifset(t, 1, 1, 0, wrong)), [0])

    def test_would_make_them_unlike(self):
        for t in (0, 1):
            calls = [SMALL, fill(0, 1, 2, 3, 4), copy(1), shape(1, 7, 0)]
            for s in (0, 1):
                for q in (0, 1):
                    now = last(*calls, payis(t, s, 0, q))[1]
                    told = ask(*calls, alike(), ifset(t, s, 0, q, now), ifset(t, s, 0, q, now + 1), alike())
                    self.assertEqual(told[4:], [[1], [1], [0], [1]])

    def test_a_stay_by_act_0(self):
        calls = [SMALL, fill(0, 1, 2, 3, 4), fill(1, 0, 2, 3, 4)]
        self.assertEqual(last(*calls, ifset(0, 0, 0, 0, 0)), [1])
        self.assertEqual(last(*calls, ifset(1, 0, 0, 0, 1)), [1])
        self.assertEqual(last(*calls, ifset(1, 0, 0, 0, -1)), [0])
        self.assertEqual(last(*calls, ifset(0, 0, 0, 0, 2)), [0])

    def test_the_pay_that_potentials_ask_for(self):
        # By 3/2 and 9/2, counted 1 by 3, with one pay of each table in turn to be found.
        first = [5, -7, 2, 11]
        second = [4, -7, -2, 8]
        for t in (0, 1):
            for k in range(4):
                rows = [list(first), list(second)]
                right = rows[t][k]
                rows[t][k] = 999
                calls = [begin(2, 1, 1, 3), fill(0, *rows[0]), fill(1, *rows[1])]
                self.assertEqual(last(*calls, ifset(t, k // 2, 0, k % 2, right)), [1], (t, k))
                self.assertEqual(last(*calls, ifset(t, k // 2, 0, k % 2, right + 1)), [0], (t, k))

    def test_changes_nothing(self):
        for where in ((0, 0, 0, 0), (1, 1, 1, 0), (0, 1, 0, 1)):
            calls = START + [ifset(*where, 999)]
            self.assertEqual(last(*calls), [0])
            self.assertEqual(table(calls, 0, 2, 2), [3, 10, 5, 1, 7, -4, 0, 2])
            self.assertEqual(table(calls, 1, 2, 2), [1, 2, 3, 4, 5, 6, 7, 8])

    def test_where_it_pays_beyond_what_a_row_holds(self):
        calls = [SMALL, put(1, 0, 0, 1, 1000), scale(1, 100)]
        self.assertEqual(ask(*calls, ifset(1, 0, 0, 1, 0), ifset(0, 0, 0, 1, 1000))[3:], [[1], [0]])
        self.assertEqual(last(*calls, payis(1, 0, 0, 1)), [0, 100000])

    def test_at_the_bounds(self):
        for pay in (1000, -1000):
            calls = [SMALL, put(0, 1, 0, 0, pay)]
            self.assertEqual(last(*calls, ifset(1, 1, 0, 0, pay)), [1])
            self.assertEqual(last(*calls, ifset(1, 1, 0, 0, -pay)), [0])

    def test_row_that_is_refused(self):
        rows = [(), (1, 2), (0, 0, 0), (1, 2, 3, 4)]
        rows += [(pay,) for pay in (1001, -1001, 100000, TEN_TO_30, -TEN_TO_30)]
        for row in rows:
            calls = START + [ifset(0, 1, 0, 1, *row)]
            self.assertEqual(last(*calls), [-22], row)
            self.assertEqual(table(calls, 0, 2, 2), [3, 10, 5, 1, 7, -4, 0, 2])
            self.assertEqual(table(calls, 1, 2, 2), [1, 2, 3, 4, 5, 6, 7, 8])

    def test_no_such_place(self):
        for start, n, m in ((SMALL, 2, 1), (begin(3, 2, 1, 2), 3, 2), (begin(2, 3, 1, 2), 2, 3)):
            wheres = [(t, 0, 0, 0) for t in (2, 3, MOST)]
            wheres += [(0, s, 0, 0) for s in (n, n + 1, MOST)]
            wheres += [(0, 0, x, 0) for x in (m, m + 1, MOST)]
            wheres += [(1, 0, 0, q) for q in (n, n + 1, MOST)]
            for where in wheres:
                self.assertEqual(last(start, ifset(*where, 5)), [-2], where)
                # It stands ahead of what is wrong with the row.
                for row in ((), (1, 2), (1001,), (-TEN_TO_30,)):
                    self.assertEqual(last(start, ifset(*where, *row)), [-2], (where, row))


class Mixed(unittest.TestCase):
    def test_one_list(self):
        calls = [
            alike(), begin(2, 1, 2, 2), trivial(0), begin(2, 1, 1, 3), fill(0, 5, -7, 2, 11), copy(1), alike(),
            shape(1, 1, 3), potentials(), far(), gap(0, 0, 1), put(1, 1, 0, 0, 8), alike(), potentials(), differ(),
            far(), factor(), ifset(1, 1, 0, 0, -6), swap(), gap(1, 0, 0), path(0, 1, 0, 0), potof(0), trivial(0),
            trivial(2), path(2, 9), gap(9), ifset(0, 0, 0, 0), alike(), copy(0), alike(), scale(0, 2), factor(),
            begin(2, 1, 1, 2), factor(), trivial(1), swap(), alike(),
        ]
        self.assertEqual(ask(*calls), [
            [-11], [-22], [-11], [4], [0], [0], [1],
            [0], [2, 3, 1, 9, 1], [0, 0, 1, 0, 0, 0], [0, 0, 1], [0, -6], [0], [-33], [1],
            [0, 14, 1, 1, 0, 0], [-33], [1], [0], [0, -6, 1], [0, 8, 1], [2, -9, 2, -15, 2], [0],
            [-2], [-2], [-22], [-22], [0], [0], [1], [0], [0, 1, 2],
            [4], [0, 1, 1], [1], [0], [1],
        ])

    def test_asking_changes_nothing(self):
        asking = [
            alike(), potentials(), factor(), far(), differ(), path(0, 0, 0, 1), path(1, 0, 0, 1), gap(0, 1, 1),
            ifset(0, 0, 0, 0, 9), ifset(1, 1, 1, 1, 9), trivial(0), trivial(1),
        ]
        refused = [path(2, 0), path(0), gap(), gap(0, 0), ifset(2, 0, 0, 0, 1), ifset(0, 0, 0, 0), trivial(2)]
        for calls in (START, START + [copy(1), shape(1, 3, 4)]):
            for call in asking + refused:
                done = calls + [call]
                self.assertEqual(table(done, 0, 2, 2), table(calls, 0, 2, 2), call)
                self.assertEqual(table(done, 1, 2, 2), table(calls, 1, 2, 2), call)
                self.assertEqual(last(*done, potof(0)), last(*calls, potof(0)), call)
            told = ask(*calls, *asking, *refused, *asking)[len(calls):]
            self.assertEqual(told[:len(asking)], told[-len(asking):])


if __name__ == "__main__":
    unittest.main()
