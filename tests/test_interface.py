"""The interface: how calls and answers stand in their lists, and what is left alone."""

import builtins
import unittest
from unittest import mock

from shapedpays.tables import answers
from tests.calls import (
    alike, begin, copy, differ, factor, far, fill, gap, ifset, joined, least, leastrow, path, payis, potentials, potof,
    put, scale, shape, swap, trivial,
)

# Each of the calls, some of them refused, and a begin that comes again.
MANY = joined([
    payis(0, 0, 0, 0), begin(1, 1, 1, 2), begin(2, 1, 2, 5), fill(0, 3, 10, 7, -4), put(0, 0, 0, 1, 11),
    put(0, 0, 0, 1), copy(1), shape(1, 1, -1), shape(1, 1), scale(0, 2), scale(0, 0), potof(0), least(0, 0, 0, 1),
    leastrow(1, 1, 0), leastrow(1, 2, 0), alike(), potentials(), factor(), far(), differ(), path(0, 0, 0, 1, 0, 1),
    path(0, 0, 0), path(2), gap(0, 0, 1), gap(), swap(), ifset(0, 0, 0, 1, 5), ifset(0, 0, 0, 1), ifset(2, 0, 0, 0),
    trivial(0), trivial(2), copy(0), shape(1, 2, 0), alike(), potentials(), begin(2, 2, 1, 2), payis(0, 0, 1, 0),
])
TOLD = [
    1, -11, 1, -22, 1, 4, 1, 0, 2, 0, 10,
    1, -22, 1, 0, 1, 0, 1, -22, 1, 0, 1, -22, 5, 2, -10, 1, 40, 3, 3, 0, 20, 3,
    5, 2, 47, 3, 0, 1, 1, -2, 1, 0, 1, -33, 3, 0, 1, 2, 6, 0, 47, 3, 1, 0, 0, 1, 2, 3, 0, 94, 5,
    1, -22, 1, -2, 3, 0, -18, 1, 1, -22, 1, 0, 1, 0, 1, -22, 1, -2,
    1, 0, 1, -2, 1, 0, 1, 0, 1, 1, 5, 2, 10, 1, 0, 1, 1, 8, 2, 0, 0,
]


class Unchanging(list):
    """A list that can't be changed, not for a while either."""

    def refuse(self, *args, **kwargs):
        raise AssertionError("what is handed in was changed")

    append = extend = insert = pop = remove = clear = sort = reverse = refuse
    __setitem__ = __delitem__ = __iadd__ = __imul__ = refuse


class Lists(unittest.TestCase):
    def test_a_count_then_the_answer(self):
        self.assertEqual(answers([0, 2, 1, 1, 2]), [1, 4])
        self.assertEqual(answers([0, 5, 1, 1, 2]), [1, -22])
        self.assertEqual(answers([3, 0, 0, 0, 0]), [1, -11])

    def test_one_call_behind_another(self):
        self.assertEqual(answers(MANY), TOLD)

    def test_an_empty_row_takes_one_number(self):
        self.assertEqual(answers([0, 2, 1, 1, 2, 1, 0, 0, 0, 0, 0, 2, 1, 0, 5, 0, 0, 4, 0]),
                         [1, 4, 1, -22, 1, -22, 1, -22, 1, 0])

    def test_numbers_of_a_row_are_no_calls(self):
        self.assertEqual(answers([0, 2, 1, 1, 2, 2, 0, 4, 0, 3, 1, 2, 3, 0, 0, 0, 1]), [1, 4, 1, 0, 2, 0, 3])

        self.assertEqual(answers([0, 2, 1, 1, 2, 15, 0, 0, 16, 0, 18, 0, 0, 0, 0, 0, 17, 10]),
                         [1, 4, 1, -22, 1, -22, 1, -22, 1, 0, 1, 1])

    def test_each_call_by_its_number(self):
        start = [0, 2, 1, 1, 3, 2, 0, 4, 5, -7, 2, 11, 2, 1, 4, 4, -7, -2, 8]
        for call, told in (
                ([10], [1, 1]), ([11], [5, 2, 3, 2, 9, 2]), ([12], [3, 0, 1, 1]), ([13], [6, 0, 0, 1, 0, 0, 0]),
                ([14], [1, 0]), ([15, 1, 3, 1, 0, 0], [3, 0, -2, 1]), ([16, 3, 1, 0, 0], [3, 0, -4, 1]),
                ([17], [1, 0]), ([18, 1, 0, 0, 1, 1, -7], [1, 1]), ([19, 1], [1, 0])):
            self.assertEqual(answers(start + call), [1, 4, 1, 0, 1, 0] + told, call)
            # What stands behind it is read from its end on.
            self.assertEqual(answers(start + call + [14]), [1, 4, 1, 0, 1, 0] + told + [1, 0], call)

    def test_the_longest_rows(self):
        calls = [1, 0, 0, 0, 0, 4, 1, 2, 3, 4] + [2, 0, 50] + [1] * 50 + [5, 0, 6, 1, 2, 3, 4, 5, 6]
        calls += [15, 0, 15] + [0] * 15 + [16, 15] + [0] * 15 + [18, 0, 0, 0, 0, 4, 1, 2, 3, 4]
        self.assertEqual(answers([0, 4, 3, 1, 2] + calls + [3, 0, 0, 0, 0]),
                         [1, 48, 1, -22, 1, -22, 1, -22, 1, -22, 1, -22, 1, -22, 2, 0, 0])

    def test_sixty_calls(self):
        calls = begin(4, 3, 9, 10) + fill(0, *[1000] * 48) * 59
        self.assertEqual(answers(calls), [1, 48] + [1, 0] * 59)

    def test_whole_numbers_in_a_list(self):
        told = answers(MANY)
        self.assertIs(type(told), list)
        self.assertEqual({type(number) for number in told}, {int})


class LeftAlone(unittest.TestCase):
    def test_what_is_handed_in_stays(self):
        handed = list(MANY)
        answers(handed)
        self.assertEqual(handed, MANY)

    def test_what_is_handed_in_is_not_changed_for_a_while(self):
        self.assertEqual(answers(Unchanging(MANY)), TOLD)

    def test_nothing_is_kept(self):
        answers(MANY)
        self.assertEqual(answers([3, 0, 0, 0, 0]), [1, -11])
        first = answers(MANY)
        first.append(5)
        self.assertEqual(answers(MANY), TOLD)
        self.assertEqual(answers([0, 2, 1, 1, 2, 3, 0, 0, 0, 0]), [1, 4, 2, 0, 0])

    def test_nothing_is_printed_read_or_imported(self):
        def refuse(*args, **kwargs):
            raise AssertionError("printed, read or imported")

        with mock.patch.object(builtins, "print", refuse), mock.patch.object(builtins, "open", refuse), \
                mock.patch.object(builtins, "input", refuse), mock.patch.object(builtins, "__import__", refuse):
            told = answers(MANY)
        self.assertEqual(told, TOLD)


if __name__ == "__main__":
    unittest.main()
