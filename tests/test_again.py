"""Point 3, again and times."""

import itertools
import unittest

from tests.helper import (
    CLEAR, CLOSE, DAMAGE, DONE, HALVES, LEFT, LOOKS, STATE, TIMES, UNDO, again, ask, filled, in_reads, last, mixed_rows,
    read, reads, small_rows, start)

TABLE = start(5000, [1, 2, 3, 10, 300], [1, 4, 4, 9, 700])


def every_row():
    return itertools.chain(small_rows(), mixed_rows())


def left_open(readings):
    return last(TABLE, *in_reads(readings), LEFT)[1:]


class Again(unittest.TestCase):
    def test_once(self):
        found = ask(start(), reads(0, 300, 100), again(1), LEFT, DONE, HALVES, DAMAGE, STATE)
        self.assertEqual(found[2:], [[1], [3, 0, 300, 100], [1, 300], [2, 300, 200], [2 * 40 + 80], [6, 3, 1, 2]])

    def test_several_times(self):
        found = ask(start(), reads(0, 300, 100), again(3), LEFT, DONE, HALVES, DAMAGE, STATE)
        self.assertEqual(found[2:], [
            [3], [3, 0, 300, 100], [3, 300, 300, 300], [2, 300, 200], [2 * 3 * 40 + 80], [12, 3, 3, 2]])

    def test_as_it_came_and_not_otherwise(self):
        found = ask(start(), reads(50, 60, 20, 90, 40, 70), again(1), LEFT, DONE)
        self.assertEqual(found[2:], [[3], [6, 50, 60, 20, 90, 40, 70], [3, 10, 30, 70]])

    def test_one_reading_open_alone(self):
        for n in (1, 2, 20):
            with self.subTest(n=n):
                found = ask(start(), read(7), again(n), LEFT, DONE, DAMAGE, STATE)
                self.assertEqual(found[2:], [[0], [1, 7], [0], [0], [1 + n, 1, 0, 2]])

    def test_one_alone_after_a_close(self):
        found = ask(start(), reads(0, 300, 100), CLOSE, again(4), LEFT, DONE, DAMAGE, STATE)
        self.assertEqual(found[3:], [[0], [1, 100], [0], [80], [7, 1, 0, 3]])

    def test_edges_of_n(self):
        for n, expected in ((0, [-22]), (1, [1]), (20, [20]), (21, [-22]), (4294967295, [-22])):
            with self.subTest(n=n):
                self.assertEqual(last(start(), reads(0, 9), again(n)), expected)

    def test_refused_where_nothing_is_open(self):
        for calls in ((), (reads(),), (read(3), UNDO), (read(3), CLEAR)):
            for n in (1, 20):
                with self.subTest(calls=calls, n=n):
                    self.assertEqual(ask(start(), *calls, again(n), STATE)[-2:], [[-6], [0, 0, 0, 0]])

    def test_n_is_named_ahead_of_nothing_open(self):
        for n in (0, 21):
            self.assertEqual(last(start(), again(n)), [-22])

    def test_n_is_named_ahead_of_too_many(self):
        full = [*filled(2999), read(1000)]
        self.assertEqual(ask(*full, again(0), again(21), again(1))[-3:], [[-22], [-22], [-28]])

    def test_just_3000_would_be_done(self):
        # Three readings are open, of which each time one does a swing.
        for number_done, n in ((2940, 20), (2970, 10), (2997, 1)):
            with self.subTest(number_done=number_done):
                self.assertEqual(ask(*filled(number_done), again(n), LEFT)[-2:], [[n], [3, 0, 1000, 0]])

    def test_one_more_than_3000_would_be_done(self):
        for number_done, n in ((2941, 20), (2971, 10), (2998, 1)):
            with self.subTest(number_done=number_done):
                calls = filled(number_done)
                found = ask(*calls, STATE, again(n), STATE, LEFT)
                self.assertEqual(found[-3:], [[-28], found[-4], [3, 0, 1000, 0]])

    def test_just_3000_and_one_more_with_one_open(self):
        for number_done, n, expected in ((2980, 20, [0]), (2981, 20, [-28]), (2999, 1, [0]), (2999, 2, [-28])):
            with self.subTest(number_done=number_done, n=n):
                self.assertEqual(last(*filled(number_done), CLOSE, again(n)), expected)

    def test_3000_are_done(self):
        self.assertEqual(last(*filled(2999), read(1000), CLOSE, again(1)), [-28])

    def test_a_long_row(self):
        # 101 readings are open, and none is done.
        row = [500 + (k if k % 2 else -k) for k in range(101)]
        begun = (start(), *in_reads(row))
        self.assertEqual(last(*begun, LEFT), [101, *row])
        self.assertEqual(ask(*begun, again(20), STATE)[-2:], [[20 * 50], [21 * 101, 101, 1000, 3]])
        found = ask(*begun, again(20), again(20), again(19), again(11), again(10))
        self.assertEqual(found[-4:], [[-28], [19 * 50], [-28], [10 * 50]])


class AgainAndTheSameReadings(unittest.TestCase):
    def test_one_by_one(self):
        for readings in every_row():
            row = left_open(readings)
            begun = (TABLE, *in_reads(readings))
            for n in (1, 3):
                found = ask(*begun, again(n), *LOOKS, STATE)
                same = ask(*begun, *[read(x) for x in row * n], *LOOKS, STATE)
                number_done = sum(answer[0] for answer in same[len(begun):-len(LOOKS) - 1])
                self.assertEqual(found[len(begun)], [number_done], readings)
                self.assertEqual(found[-len(LOOKS) - 1:-1], same[-len(LOOKS) - 1:-1], readings)
                self.assertEqual(found[-1][:3], same[-1][:3], readings)

    def test_many_times(self):
        for readings in mixed_rows():
            row = left_open(readings)
            begun = (TABLE, *in_reads(readings))
            found = ask(*begun, again(20), *LOOKS, STATE)
            same = ask(*begun, *in_reads(row * 20), *LOOKS, STATE)
            self.assertEqual(found[-len(LOOKS) - 1:-1], same[-len(LOOKS) - 1:-1], readings)
            self.assertEqual(found[-1][:3], same[-1][:3], readings)

    def test_once_and_once_more(self):
        for readings in every_row():
            begun = (TABLE, *in_reads(readings))
            found = ask(*begun, again(1), again(2), again(1), *LOOKS)
            self.assertEqual(found[-len(LOOKS):], ask(*begun, again(4), *LOOKS)[-len(LOOKS):], readings)


class Times(unittest.TestCase):
    def test_once_more_and_twice(self):
        found = ask(start(), reads(0, 300, 100), TIMES)
        self.assertEqual(found[2:], [[2 * 40 + 80, 2 * 2 * 40 + 80]])

    def test_one_reading(self):
        self.assertEqual(ask(start(), read(7), TIMES, read(7), TIMES)[2::2], [[0, 0], [0, 0]])

    def test_a_closed_harm_counts_on(self):
        found = ask(start(), reads(0, 300, 100), CLOSE, TIMES, read(0), TIMES)
        self.assertEqual(found[3::2], [[80, 80], [80 + 7 + 2 * 7, 80 + 7 + 4 * 7]])

    def test_a_table_that_is_reached_by_none(self):
        self.assertEqual(last(start(5, [1000], [9]), reads(0, 999, 4), TIMES), [0, 0])

    def test_a_size_just_reached(self):
        for size, number in ((49, 1), (50, 7)):
            self.assertEqual(last(start(), reads(100, 100 + size), TIMES), [3 * number, 5 * number])

    def test_refused_where_nothing_is_open(self):
        for calls in ((), (reads(),), (read(3), UNDO), (read(3), CLEAR)):
            with self.subTest(calls=calls):
                self.assertEqual(last(start(), *calls, TIMES), [-33])

    def test_too_many_are_done_for_again(self):
        found = ask(*filled(2999), read(1000), again(1), TIMES)
        self.assertEqual(found[-2:], [[-28], [3001 * 80 + 40, 3002 * 80 + 40]])

    def test_it_tells_what_again_then_does(self):
        for readings in every_row():
            begun = (TABLE, *in_reads(readings))
            found = ask(*begun, TIMES, again(1), DAMAGE, UNDO, again(2), DAMAGE)[len(begun):]
            self.assertEqual(found[0], found[2] + found[5], readings)

    def test_nothing_comes(self):
        for readings in mixed_rows():
            begun = (TABLE, *in_reads(readings))
            seen = len(LOOKS) + 1
            found = ask(*begun, *LOOKS, STATE, TIMES, TIMES, *LOOKS, STATE)
            self.assertEqual(found[len(begun):len(begun) + seen], found[-seen:], readings)


if __name__ == "__main__":
    unittest.main()
