"""Point 1, start; and that nothing is answered ahead of it."""

import unittest

from tests.helper import (
    CLEAR, CLOSE, DAMAGE, DONE, GREATEST, HALVES, LEFT, LIFE, LOOKS, STATE, TIMES, UNDO, again, ask, count, harm, last,
    most, read, reads, start, would)

OTHERS = (read(5), reads(5, 6), LEFT, DONE, HALVES, harm(5), DAMAGE, LIFE, would(5), most(5), count(5, 6), GREATEST,
          again(5), TIMES, UNDO, CLEAR, CLOSE, STATE)
WRONG_OTHERS = (read(1001), reads(), reads(1001), harm(1001), would(1001), count(6, 5), again(0), again(21))

REFUSED = {
    "limit 0": start(limit=0),
    "limit one above the greatest": start(limit=10000001),
    "greatest number as a limit": start(limit=4294967295),
    "no rows": start(froms=[], harms=[]),
    "nine rows": start(froms=list(range(9)), harms=[1] * 9),
    "sixty rows": start(froms=list(range(60)), harms=[1] * 60),
    "sizes alike": start(froms=[10, 10], harms=[1, 2]),
    "sizes that fall": start(froms=[10, 9], harms=[1, 2]),
    "sizes that fall last": start(froms=[1, 2, 3, 2], harms=[1, 1, 1, 1]),
    "sizes that fall first": start(froms=[3, 2, 4, 5], harms=[1, 1, 1, 1]),
    "harms that fall": start(froms=[10, 20], harms=[2, 1]),
    "harms that fall first": start(froms=[1, 2, 3], harms=[2, 1, 3]),
    "a size above 1,000": start(froms=[1001], harms=[1]),
    "a last size above 1,000": start(froms=[5, 1001], harms=[1, 1]),
    "a first size far above 1,000": start(froms=[4294967295, 5], harms=[1, 1]),
    "a harm above 1,000": start(froms=[1], harms=[1001]),
    "a last harm above 1,000": start(froms=[1, 2], harms=[1, 1001]),
    "fewer harms": start(froms=[1, 2], harms=[1]),
    "more harms": start(froms=[1], harms=[1, 2]),
    "no harms": start(froms=[1], harms=[]),
    "no sizes": start(froms=[], harms=[1]),
    "eight sizes, nine harms": start(froms=list(range(8)), harms=[1] * 9),
}

TAKEN = {
    "limit 1": start(limit=1),
    "greatest limit": start(limit=10000000),
    "one row": start(froms=[5], harms=[5]),
    "eight rows": start(froms=list(range(1, 9)), harms=list(range(8))),
    "size 0": start(froms=[0], harms=[1]),
    "size 1,000": start(froms=[999, 1000], harms=[1, 1]),
    "harm 0": start(froms=[1], harms=[0]),
    "harm 1,000": start(froms=[1, 2], harms=[999, 1000]),
    "harms alike": start(froms=[1, 2, 3], harms=[4, 4, 4]),
    "sizes that rise by one": start(froms=[7, 8], harms=[1, 2]),
}


class BeforeAStart(unittest.TestCase):
    def test_every_other_call_is_refused(self):
        for call in OTHERS:
            with self.subTest(call=call):
                self.assertEqual(ask(call), [[-11]])

    def test_it_is_named_ahead_of_other_refusals(self):
        for call in WRONG_OTHERS:
            with self.subTest(call=call):
                self.assertEqual(ask(call), [[-11]])

    def test_every_call_of_a_line_is_refused_until_a_start(self):
        found = ask(*OTHERS, *WRONG_OTHERS, start(), LEFT)
        self.assertEqual(found, [[-11]] * (len(OTHERS) + len(WRONG_OTHERS)) + [[0], [0]])

    def test_a_refused_start_is_none(self):
        for call in OTHERS:
            with self.subTest(call=call):
                self.assertEqual(ask(start(limit=0), call), [[-22], [-11]])


class Start(unittest.TestCase):
    def test_refused(self):
        for name, call in REFUSED.items():
            with self.subTest(name):
                self.assertEqual(ask(call), [[-22]])

    def test_taken(self):
        for name, call in TAKEN.items():
            with self.subTest(name):
                self.assertEqual(ask(call, LEFT), [[0], [0]])

    def test_refused_leaves_all_as_it_was(self):
        looks = (*LOOKS, STATE, harm(49), UNDO, *LOOKS, STATE)
        begun = (start(), reads(0, 300, 100), CLOSE, reads(200, 150, 900, 400))
        before = ask(*begun, *looks)[4:]
        for name, call in REFUSED.items():
            with self.subTest(name):
                self.assertEqual(ask(*begun, call, *looks)[4:], [[-22]] + before)

    def test_once_more_leaves_nothing(self):
        begun = (start(), reads(0, 300, 100, 200, 150, 900, 400), CLOSE, again(3))
        found = ask(*begun, start(7, [3], [2]), LEFT, DONE, HALVES, DAMAGE, LIFE, harm(2), harm(3), harm(1000),
                    most(0), count(0, 1000), GREATEST, TIMES, STATE, again(1), CLOSE, UNDO, CLEAR)
        self.assertEqual(found[4:], [[0], [0], [0], [0], [0], [1, 14], [0], [2], [2],
                                     [0], [0, 0], [-33], [-33], [0, 0, 0, 0], [-6], [-6], [-6], [0]])

    def test_once_more_lets_readings_come_as_to_a_new_one(self):
        readings = reads(5, 105, 55, 105, 0)
        new = ask(start(), readings, *LOOKS, STATE, UNDO, UNDO)
        old = ask(start(3, [1], [9]), reads(0, 1000, 0, 1000, 7), CLOSE, start(), readings, *LOOKS, STATE, UNDO, UNDO)
        self.assertEqual(old[3:], new)

    def test_limit_is_kept(self):
        self.assertEqual(last(start(limit=1), LIFE), [1, 2])
        self.assertEqual(last(start(limit=10000000), LIFE), [1, 20000000])


if __name__ == "__main__":
    unittest.main()
