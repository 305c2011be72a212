"""Point 1, read and reads; point 2, left, done and halves."""

import unittest

from tests.helper import DONE, HALVES, LEFT, ask, filled, last, read, reads, start, would

# readings; left; done; halves
CASES = {
    "one": ([7], [7], [], []),
    "two": ([7, 9], [7, 9], [], [2]),
    "one alike": ([7, 7, 7], [7], [], []),
    "zero alike": ([0, 0], [0], [], []),
    "alike behind others": ([7, 9, 9, 4, 4, 4], [7, 9, 4], [], [2, 5]),
    "between, going up": ([1, 5, 9], [1, 9], [], [8]),
    "between, going down": ([9, 5, 1], [9, 1], [], [8]),
    "back to the first": ([4, 9, 4], [4, 9, 4], [], [5, 5]),
    "from 0 to 1,000": ([0, 1000, 0], [0, 1000, 0], [], [1000, 1000]),
    "inner swing": ([0, 10, 4, 20], [0, 20], [6], [20]),
    "inner swing, downwards": ([20, 10, 16, 0], [20, 0], [6], [20]),
    "middle as great as the one before": ([0, 6, 0, 9], [0, 9], [6], [9]),
    "middle as great as the one behind": ([0, 9, 3, 9], [0, 9], [6], [9]),
    "all three as great": ([0, 6, 0, 6], [0, 6], [6], [6]),
    "middle one greater than the one before": ([1, 6, 0, 9], [1, 6, 0, 9], [], [5, 6, 9]),
    "middle one greater than the one behind": ([0, 9, 3, 8], [0, 9, 3, 8], [], [9, 6, 5]),
    "grows": ([50, 51, 49, 52, 48], [50, 51, 49, 52, 48], [], [1, 2, 3, 4]),
    "shrinks": ([48, 52, 49, 51, 50], [48, 52, 49, 51, 50], [], [4, 3, 2, 1]),
    "grows, then shrinks": ([50, 52, 47, 53, 48, 51], [50, 52, 47, 53, 48, 51], [], [2, 5, 6, 5, 3]),
    "grows, shrinks, then all inner ones go": (
        [50, 52, 47, 53, 48, 51, 49, 53], [50, 52, 47, 53], [2, 5], [2, 5, 6]),
    "inner ones in the order they're done": ([0, 100, 10, 90, 20, 80, 30, 100], [0, 100], [50, 70, 90], [100]),
    "the last goes on after an inner one": ([0, 10, 4, 11, 15, 20], [0, 20], [6], [20]),
    "a last one goes on until it takes one out": ([0, 10, 4, 6, 8, 9, 10], [0, 10], [6], [10]),
    "three in the row take out none": ([0, 10, 3], [0, 10, 3], [], [10, 7]),
    "back and forth": ([0, 5] * 5, [0, 5], [5, 5, 5, 5], [5]),
}


class Row(unittest.TestCase):
    def test_one_by_one(self):
        for name, (readings, row, sizes, halves) in CASES.items():
            with self.subTest(name):
                found = ask(start(), *[read(x) for x in readings], LEFT, DONE, HALVES)
                self.assertEqual(found[-3:], [[len(numbers), *numbers] for numbers in (row, sizes, halves)])
                self.assertEqual(sum(answer[0] for answer in found[1:-3]), len(sizes))

    def test_at_once(self):
        for name, (readings, row, sizes, halves) in CASES.items():
            with self.subTest(name):
                found = ask(start(), reads(*readings), LEFT, DONE, HALVES)
                self.assertEqual(found[1], [len(sizes)])
                self.assertEqual(found[2:], [[len(numbers), *numbers] for numbers in (row, sizes, halves)])

    def test_nothing_was_read(self):
        self.assertEqual(ask(start(), LEFT, DONE, HALVES), [[0], [0], [0], [0]])

    def test_looks_change_nothing(self):
        looks = (LEFT, DONE, HALVES)
        found = ask(start(), reads(0, 100, 10, 90, 20, 95), *looks, *looks)
        self.assertEqual(found[2:5], found[5:])


class Read(unittest.TestCase):
    def test_tells_how_many_are_done_by_it(self):
        found = ask(start(), *[read(x) for x in (0, 100, 10, 90, 20, 80, 30, 85, 100)])
        self.assertEqual(found[1:], [[0], [0], [0], [0], [0], [0], [0], [1], [2]])

    def test_edges_of_a_reading(self):
        self.assertEqual(ask(start(), read(0), read(1000), LEFT)[1:], [[0], [0], [2, 0, 1000]])

    def test_refused_above_1000(self):
        for x in (1001, 4294967295):
            self.assertEqual(ask(start(), read(3), read(x), LEFT)[2:], [[-22], [1, 3]])

    def test_2999_done_is_not_too_many(self):
        found = ask(*filled(2999), read(1000), LEFT)
        self.assertEqual(found[-2:], [[1], [2, 0, 1000]])

    def test_3000_done_is_too_many(self):
        full = [*filled(2999), read(1000)]
        found = ask(*full, DONE, read(0), read(1000), LEFT, DONE)
        self.assertEqual(found[-5], [3000] + [1000] * 3000)
        self.assertEqual(found[-4:-1], [[-28], [-28], [2, 0, 1000]])
        self.assertEqual(found[-1], found[-5])

    def test_above_1000_is_named_ahead_of_too_many(self):
        self.assertEqual(last(*filled(2999), read(1000), read(1001)), [-22])

    def test_one_reading_may_go_beyond_3000(self):
        over = [*filled(2999, (0, 1000, 100, 900, 400), (500, 400)), read(1000)]
        found = ask(*over, LEFT, read(5), reads(5), would(0), LEFT, DONE)
        self.assertEqual(found[-7:-1], [[2], [2, 0, 1000], [-28], [-28], [42226, 0], [2, 0, 1000]])
        self.assertEqual(found[-1], [3001] + [100] * 2999 + [500, 900])

    def test_a_start_makes_room(self):
        self.assertEqual(ask(*filled(2999), read(1000), start(), read(4), LEFT)[-2:], [[0], [1, 4]])


class Reads(unittest.TestCase):
    def test_tells_how_many_are_done_by_them_alone(self):
        found = ask(start(), reads(0, 100, 10, 90), reads(20, 90), reads(95, 100), reads(100), DONE)
        self.assertEqual(found[1:], [[0], [1], [1], [0], [2, 70, 90]])

    def test_refused_without_any(self):
        self.assertEqual(ask(start(), read(3), reads(), LEFT)[2:], [[-22], [1, 3]])

    def test_refused_if_one_is_above_1000(self):
        for readings in ([1001], [1001, 5, 6], [5, 1001, 6], [5, 6, 1001], [5, 4294967295]):
            with self.subTest(readings=readings):
                self.assertEqual(ask(start(), read(3), reads(*readings), LEFT, DONE)[2:], [[-22], [1, 3], [0]])

    def test_edges_of_a_reading(self):
        self.assertEqual(ask(start(), reads(0, 1000), LEFT)[1:], [[0], [2, 0, 1000]])

    def test_sixty(self):
        self.assertEqual(ask(start(), reads(*[0, 1000] * 30), LEFT)[1:], [[29], [2, 0, 1000]])

    def test_just_3000_would_be_done(self):
        for number_done, size in ((2940, 60), (2990, 10), (2999, 1)):
            with self.subTest(number_done=number_done):
                self.assertEqual(ask(*filled(number_done), reads(*[0] * size), LEFT)[-2:], [[0], [3, 0, 1000, 0]])

    def test_one_more_than_3000_would_be_done(self):
        for number_done, size in ((2941, 60), (2990, 11), (2999, 2)):
            with self.subTest(number_done=number_done):
                self.assertEqual(
                    ask(*filled(number_done), reads(*[1000] * size), LEFT)[-2:], [[-28], [3, 0, 1000, 0]])

    def test_3000_are_done(self):
        self.assertEqual(last(*filled(2999), read(1000), reads(0)), [-28])

    def test_wrong_readings_are_named_ahead_of_too_many(self):
        full = [*filled(2999), read(1000)]
        self.assertEqual(ask(*full, reads(), reads(1001), reads(0, 1001))[-3:], [[-22], [-22], [-22]])


if __name__ == "__main__":
    unittest.main()
