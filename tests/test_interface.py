"""How calls are written and answers given back."""

import unittest

from swingcounts.pack import answers
from tests.helper import (
    CLEAR, CLOSE, DAMAGE, DONE, GREATEST, HALVES, LEFT, LIFE, STATE, TIMES, UNDO, again, count, filled, harm, most,
    read, reads, start, would)


def long_line():
    calls = [read(3), start(0), *filled(500), reads(5, 900, 100, 800, 200), read(1001), reads(), harm(50),
             harm(1001), would(850), would(1001), LEFT, DONE, HALVES, DAMAGE, LIFE, again(3), CLOSE, again(0), TIMES,
             UNDO, UNDO, most(3), count(4, 900), count(4, 3), GREATEST, STATE, CLEAR, UNDO, CLOSE, GREATEST, TIMES,
             start(7, [2, 3], [1, 0]), start(7, [2, 3], [0, 1]), reads(4, 8, 4, 8), LEFT, DONE, HALVES, DAMAGE, LIFE]
    return [number for call in calls for number in call]


class NeverChanged(list):
    """A list that fails when it is changed, be it for a while."""

    def refuse(self, *told):
        raise AssertionError("what is handed in was changed")

    append = extend = insert = pop = remove = reverse = sort = clear = refuse
    __setitem__ = __delitem__ = __iadd__ = __imul__ = refuse


class Form(unittest.TestCase):
    def test_numbers_as_they_stand(self):
        calls = [3, 0, 100, 2, 10, 20, 2, 1, 5, 1, 30, 2, 3, 50, 45, 60, 3, 4, 5, 6, 20, 7, 8, 9, 0]
        self.assertEqual(answers(calls), [
            1, -11,
            1, 0,
            1, 0,
            1, 1,
            3, 2, 30, 60,
            2, 1, 5,
            2, 1, 30,
            1, 5,
            1, 5,
            2, 1, 195,
            2, 10, 0,
        ])

    def test_numbers_of_the_later_calls_as_they_stand(self):
        calls = [18, 0, 100, 2, 10, 20, 2, 1, 5, 2, 4, 30, 50, 45, 60, 10, 5, 11, 5, 30, 12, 14, 13, 2, 17, 18, 15, 15,
                 18, 16, 12, 14, 13, 1, 13, 0, 17, 15, 11, 2, 1]
        self.assertEqual(answers(calls), [
            1, -11,
            1, 0,
            1, 1,
            1, 1,
            2, 1, 1,
            3, 30, 60, 30,
            2, 15, 25,
            1, 2,
            1, 1,
            4, 8, 1, 3, 3,
            1, 2,
            1, 1,
            4, 4, 2, 1, 1,
            1, 1,
            1, -33,
            1, -33,
            1, -6,
            1, -22,
            1, -6,
            1, -6,
            1, -22,
        ])

    def test_refused_calls_are_gone_over_whole(self):
        calls = [0, 3, 3, 1, 2, 3, 1, 8, 2, 4, 1, 2, 3, 4, 9, 7, 1, 7, 6, 7, 0, 9, 1, 1, 1, 4, 2, 1, 4000000000, 7]
        self.assertEqual(answers(calls), [1, -22, 1, -11, 1, -11, 1, -11, 1, -11, 1, 0, 1, -22, 1, 0])

    def test_empty_rows(self):
        self.assertEqual(answers([0, 1, 0, 0, 0, 1, 1, 1, 1, 1, 2, 0, 3]), [1, -22, 1, 0, 1, -22, 1, 0])

    def test_whole_numbers_in_a_list(self):
        given = answers(long_line())
        self.assertIs(type(given), list)
        self.assertEqual({type(number) for number in given}, {int})

    def test_as_many_calls_as_there_may_be(self):
        calls = start(10000000, [1], [1]) + reads(*range(0, 60)) * 199
        self.assertEqual(answers(calls), [1, 0, 1, 0] + [1, 1] * 198)


class NothingKept(unittest.TestCase):
    def test_what_is_handed_in_stays_as_it_was(self):
        calls = long_line()
        answers(calls)
        self.assertEqual(calls, long_line())

    def test_what_is_handed_in_is_not_changed_for_a_while_either(self):
        self.assertEqual(answers(NeverChanged(long_line())), answers(long_line()))

    def test_alike_twice(self):
        calls = long_line()
        first = answers(calls)
        self.assertEqual(answers(calls), first)

    def test_what_was_given_back_is_not_changed_by_the_next(self):
        calls = long_line()
        first = answers(calls)
        copy = list(first)
        answers(calls)
        first.clear()
        self.assertEqual(answers(calls), copy)

    def test_no_start_is_kept(self):
        answers(start())
        self.assertEqual(answers([3]), [1, -11])


if __name__ == "__main__":
    unittest.main()
