"""Point 2, most, count and greatest."""

import unittest

from tests.helper import (
    CLEAR, CLOSE, DONE, GREATEST, HALVES, LOOKS, STATE, UNDO, ask, count, last, most, read, reads, start)

# 50, 70, 90, 70 are done, in this order; the half swings are 100, 40, 20.
BEGUN = (start(), reads(0, 100, 10, 90, 20, 80, 30, 100, 30, 100, 60, 80))


class Begun(unittest.TestCase):
    def test_what_the_tests_begin_with(self):
        self.assertEqual(ask(*BEGUN, DONE, HALVES)[2:], [[4, 50, 70, 90, 70], [3, 100, 40, 20]])


class Most(unittest.TestCase):
    def test_of_that_size_or_more(self):
        expected = {0: 4, 49: 4, 50: 4, 51: 3, 69: 3, 70: 3, 71: 1, 89: 1, 90: 1, 91: 0, 100: 0, 1000: 0, 1001: 0}
        for n, number in expected.items():
            with self.subTest(n=n):
                self.assertEqual(last(*BEGUN, most(n)), [number])

    def test_greatest_number(self):
        self.assertEqual(last(*BEGUN, most(4294967295)), [0])

    def test_a_size_of_1000(self):
        begun = (start(), reads(0, 1000, 0, 1000))
        self.assertEqual(ask(*begun, most(1000), most(1001))[2:], [[1], [0]])

    def test_none_is_done(self):
        self.assertEqual(ask(start(), most(0), reads(0, 500), most(0))[1:], [[0], [0], [0]])


class Count(unittest.TestCase):
    def test_both_ends_belong_to_it(self):
        expected = {
            (50, 90): [4, 0], (51, 90): [3, 0], (50, 89): [3, 0], (51, 89): [2, 0], (20, 40): [0, 2], (21, 40): [0, 1],
            (20, 39): [0, 1], (21, 39): [0, 0], (40, 50): [1, 1], (70, 100): [3, 1], (90, 100): [1, 1],
            (91, 99): [0, 0], (0, 1000): [4, 3], (0, 19): [0, 0], (101, 1000): [0, 0],
        }
        for (a, b), numbers in expected.items():
            with self.subTest(a=a, b=b):
                self.assertEqual(last(*BEGUN, count(a, b)), numbers)

    def test_from_a_size_to_the_same(self):
        expected = {0: [0, 0], 20: [0, 1], 50: [1, 0], 69: [0, 0], 70: [2, 0], 71: [0, 0], 100: [0, 1]}
        for size, numbers in expected.items():
            with self.subTest(size=size):
                self.assertEqual(last(*BEGUN, count(size, size)), numbers)

    def test_greatest_numbers(self):
        top = 4294967295
        found = ask(*BEGUN, count(0, top), count(top, top), count(top, top - 1))
        self.assertEqual(found[2:], [[4, 3], [0, 0], [-22]])

    def test_refused_where_b_is_below_a(self):
        for a, b in ((1, 0), (71, 70), (1000, 0), (4294967295, 0)):
            with self.subTest(a=a, b=b):
                self.assertEqual(last(*BEGUN, count(a, b)), [-22])

    def test_nothing_was_read(self):
        self.assertEqual(ask(start(), count(0, 1000), count(1, 0))[1:], [[0, 0], [-22]])


class Greatest(unittest.TestCase):
    def test_half(self):
        self.assertEqual(last(*BEGUN, GREATEST), [100, 100, 0])

    def test_done(self):
        # What is closed is neither done nor a half swing any more.
        self.assertEqual(last(*BEGUN, CLOSE, GREATEST), [90, 80, 80])
        self.assertEqual(last(start(), reads(0, 6, 0, 6), CLOSE, read(4), GREATEST), [6, 6, 4])

    def test_half_behind_a_done_one(self):
        self.assertEqual(last(start(), reads(0, 6, 0, 6), CLOSE, read(13), GREATEST), [7, 13, 6])

    def test_readings_that_are_open_alone(self):
        self.assertEqual(last(start(), reads(0, 1000, 500), CLOSE, GREATEST), [0, 500, 500])

    def test_greatest_and_least_in_the_middle_of_the_row(self):
        self.assertEqual(last(start(), reads(50, 60, 20, 90, 40, 70), GREATEST), [70, 90, 20])
        self.assertEqual(last(start(), reads(50, 40, 80, 10, 60, 30), GREATEST), [70, 80, 10])

    def test_one_reading(self):
        for x in (0, 7, 1000):
            with self.subTest(x=x):
                self.assertEqual(ask(start(), read(x), GREATEST, read(x), GREATEST)[2::2], [[0, x, x], [0, x, x]])

    def test_from_0_to_1000(self):
        self.assertEqual(last(start(), reads(1000, 0), GREATEST), [1000, 1000, 0])

    def test_nothing_was_read(self):
        for calls in ((), (reads(),), (read(1001),), (read(3), UNDO), (read(3), CLEAR), (reads(0, 9, 0, 9), CLEAR)):
            with self.subTest(calls=calls):
                self.assertEqual(last(start(), *calls, GREATEST), [-33])


class NothingChanges(unittest.TestCase):
    def test_by_asking(self):
        asked = (most(0), most(70), count(0, 1000), count(2, 1), GREATEST, STATE)
        found = ask(*BEGUN, *LOOKS, STATE, *asked, *LOOKS, STATE, UNDO)
        seen = len(LOOKS) + 1
        self.assertEqual(found[2:2 + seen], found[-seen - 1:-1])
        self.assertEqual(found[-1], [0])


if __name__ == "__main__":
    unittest.main()
