"""Point 3, close; point 4, state."""

import unittest

from tests.helper import (
    CLEAR, CLOSE, DAMAGE, DONE, GREATEST, HALVES, LEFT, LIFE, LOOKS, STATE, TIMES, UNDO, again, ask, count, filled,
    in_reads, last, mixed_rows, most, read, reads, start, would)


class Close(unittest.TestCase):
    def test_how_many_half_swings_there_were(self):
        for readings, number in (((4,), 0), ((4, 9), 1), ((4, 9, 4), 2), ((50, 60, 20, 90, 40, 70), 5)):
            with self.subTest(readings=readings):
                self.assertEqual(last(start(), reads(*readings), CLOSE), [number])

    def test_the_last_reading_alone_is_open(self):
        found = ask(start(), reads(50, 60, 20, 90, 40, 70), CLOSE, LEFT, HALVES, STATE)
        self.assertEqual(found[3:], [[1, 70], [0], [6, 1, 0, 2]])

    def test_what_is_done_stays(self):
        begun = (start(), reads(0, 200, 100, 300))
        found = ask(*begun, CLOSE, DONE, most(0), count(0, 1000))
        self.assertEqual(found[2:], [[1], [1, 100], [1], [1, 0]])

    def test_the_harm_counts_on_once(self):
        found = ask(start(), reads(0, 200, 100, 300), DAMAGE, CLOSE, DAMAGE, CLOSE, DAMAGE)
        self.assertEqual(found[2:], [[2 * 7 + 40], [1], [2 * 7 + 40], [0], [2 * 7 + 40]])

    def test_readings_after_it_come_to_the_last(self):
        found = ask(start(), reads(0, 300, 100), CLOSE, read(100), LEFT, read(250), LEFT, HALVES, DAMAGE)
        self.assertEqual(found[3:], [[0], [1, 100], [0], [2, 100, 250], [1, 150], [80 + 7]])

    def test_what_is_closed_is_not_done_by_what_comes(self):
        readings = reads(0, 300, 100, 200)
        found = ask(start(), readings, CLOSE, read(1000), LEFT, DONE, DAMAGE)
        self.assertEqual(found[2:], [[3], [0], [2, 200, 1000], [0], [40 + 40 + 7 + 40]])

    def test_several(self):
        found = ask(start(), reads(0, 300, 100), CLOSE, reads(150, 90), CLOSE, reads(1000, 500, 600, 400), CLOSE,
                    DAMAGE, LEFT, DONE, STATE)
        # 300 and 200; 50 and 60; 910 and 600, and 100 is done.
        self.assertEqual(found[-5:], [[2], [80 + 14 + 80 + 2 * 7], [1, 400], [1, 100], [9, 1, 1, 6]])

    def test_would_and_times_have_it_in_them(self):
        found = ask(start(), reads(0, 300, 100), CLOSE, would(100), would(300), would(0), TIMES, read(300), TIMES)
        self.assertEqual(found[3:7], [[80, 0], [80 + 40, 0], [80 + 7, 0], [80, 80]])
        self.assertEqual(found[8], [80 + 40 + 80, 80 + 40 + 160])

    def test_life_at_just_twice_the_limit_and_one_more(self):
        for second, expected in ((1, [1, 5]), (2, [1, 0]), (3, [0, 0])):
            with self.subTest(second=second):
                # 5 is closed; from the last reading 1 on a half swing of 1 harms 5, one of 2 harms 6.
                found = ask(start(5, [1, 2], [5, 6]), reads(0, 1), CLOSE, read(second), DAMAGE, LIFE)
                self.assertEqual(found[4:], [[{1: 5, 2: 10, 3: 11}[second]], expected])

    def test_life_of_closed_harm_alone(self):
        for number, expected in ((9, [1, 1]), (10, [1, 0]), (11, [0, 0])):
            with self.subTest(damage=number):
                self.assertEqual(last(start(5, [1], [number]), reads(0, 1), CLOSE, LIFE), expected)

    def test_a_table_that_is_reached_by_none(self):
        self.assertEqual(ask(start(5, [1000], [9]), reads(0, 999, 3), CLOSE, DAMAGE)[2:], [[2], [0]])

    def test_a_size_just_reached(self):
        for size, number in ((9, 0), (10, 1), (49, 1), (50, 7), (199, 7), (200, 40)):
            with self.subTest(size=size):
                self.assertEqual(last(start(), reads(100, 100 + size), CLOSE, DAMAGE), [number])

    def test_it_is_taken_back(self):
        begun = (start(), reads(0, 300, 100))
        found = ask(*begun, *LOOKS, CLOSE, UNDO, *LOOKS, read(1000), DAMAGE, LEFT)
        self.assertEqual(found[2:2 + len(LOOKS)], found[4 + len(LOOKS):-3])
        # 200 is done, and counts twice.
        self.assertEqual(found[-3:], [[1], [2 * 40 + 40], [2, 0, 1000]])

    def test_refused_where_nothing_is_open(self):
        for calls in ((), (reads(),), (read(3), UNDO), (read(3), CLEAR)):
            with self.subTest(calls=calls):
                self.assertEqual(ask(start(), *calls, CLOSE, STATE)[-2:], [[-6], [0, 0, 0, 0]])

    def test_clear_and_start_leave_nothing_of_it(self):
        begun = (start(), reads(0, 300, 100), CLOSE)
        for call in (CLEAR, start()):
            found = ask(*begun, call, DAMAGE, LIFE, read(5), DAMAGE, would(500), TIMES, LEFT)
            self.assertEqual(found[4:], [[0], [1, 2000], [0], [0], [40, 0], [0, 0], [1, 5]])

    def test_too_many_are_done_for_a_read(self):
        found = ask(*filled(2999), read(1000), CLOSE, LEFT, DAMAGE, read(0))
        self.assertEqual(found[-4:], [[1], [1, 1000], [3000 * 80 + 40], [-28]])

    def test_over_many_rows(self):
        for readings in mixed_rows():
            begun = (start(), *in_reads(readings))
            halves, damage, life, closed, *after = ask(
                *begun, HALVES, DAMAGE, LIFE, CLOSE, DAMAGE, LIFE, LEFT, HALVES)[len(begun):]
            self.assertEqual(closed, halves[:1], readings)
            self.assertEqual(after, [damage, life, [1, readings[-1]], [0]], readings)

    def test_what_comes_after_harms_as_by_itself(self):
        for readings in mixed_rows():
            begun = (start(), reads(0, 300, 100), CLOSE)
            alone = ask(start(), read(100), *in_reads(readings), DONE, LEFT, HALVES, GREATEST, DAMAGE)
            found = ask(*begun, *in_reads(readings), DONE, LEFT, HALVES, GREATEST, DAMAGE)
            self.assertEqual(found[-5:-1], alone[-5:-1], readings)
            self.assertEqual(found[-1], [80 + alone[-1][0]], readings)


class State(unittest.TestCase):
    def test_nothing_was_read(self):
        self.assertEqual(last(start(), STATE), [0, 0, 0, 0])

    def test_step_by_step(self):
        calls = (read(0), read(100), reads(10, 90, 20, 80), read(100), again(2), CLOSE, reads(4, 5), UNDO, CLEAR)
        found = ask(start(), *[call for step in calls for call in (step, STATE)])
        self.assertEqual(found[2::2], [
            [1, 1, 0, 1], [2, 2, 0, 2], [6, 6, 0, 3], [7, 2, 2, 4], [11, 2, 4, 5], [11, 1, 4, 6], [13, 3, 4, 7],
            [11, 1, 4, 6], [0, 0, 0, 0]])

    def test_readings_that_are_alike_count_too(self):
        found = ask(start(), read(7), read(7), reads(7, 7, 7), STATE, reads(9, 9), STATE)
        self.assertEqual(found[4::2], [[5, 1, 0, 3], [7, 2, 0, 4]])

    def test_readings_between_their_neighbours_count_too(self):
        self.assertEqual(last(start(), reads(1, 2, 3, 4), STATE), [4, 2, 0, 1])

    def test_readings_that_are_taken_out_count_too(self):
        self.assertEqual(last(start(), reads(*[0, 1000] * 30), STATE), [60, 2, 29, 1])

    def test_each_reading_of_again_counts(self):
        found = ask(start(), reads(50, 60, 20, 90, 40, 70), again(1), STATE, again(20), STATE)
        self.assertEqual(found[3::2], [[12, 6, 3, 2], [132, 6, 63, 3]])

    def test_what_is_refused_did_not_come(self):
        refused = (read(1001), reads(), reads(5, 1001), again(0), again(21), would(5), TIMES, start(0))
        self.assertEqual(last(start(), read(5), *refused, STATE), [1, 1, 0, 1])

    def test_too_many_did_not_come(self):
        full = [*filled(2999), read(1000), STATE]
        found = ask(*full, read(0), reads(0), again(1), STATE)
        self.assertEqual(found[-1], found[-5])
        self.assertEqual(found[-1], [3 + 2 * 2999 + 1, 2, 3000, 20])

    def test_asked_twice(self):
        found = ask(start(), reads(0, 300, 100), STATE, STATE, LEFT, UNDO)
        self.assertEqual(found[2:], [[3, 3, 0, 1], [3, 3, 0, 1], [3, 0, 300, 100], [0]])


if __name__ == "__main__":
    unittest.main()
