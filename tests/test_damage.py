"""Point 2, harm, damage, life and would."""

import unittest

from tests.helper import DAMAGE, DONE, HALVES, LEFT, LIFE, ask, filled, harm, last, read, reads, start, would


class Harm(unittest.TestCase):
    def test_by_the_last_row_that_is_reached(self):
        expected = {0: 0, 9: 0, 10: 1, 11: 1, 49: 1, 50: 7, 199: 7, 200: 40, 201: 40, 1000: 40}
        for size, number in expected.items():
            with self.subTest(size=size):
                self.assertEqual(last(start(), harm(size)), [number])

    def test_every_row_of_a_full_table(self):
        froms = [1, 2, 4, 8, 16, 500, 999, 1000]
        harms = [0, 3, 3, 5, 8, 13, 999, 1000]
        begun = start(5, froms, harms)
        for k in range(8):
            with self.subTest(row=k):
                before = harms[k - 1] if k else 0
                self.assertEqual(ask(begun, harm(froms[k] - 1), harm(froms[k]))[1:], [[before], [harms[k]]])

    def test_size_0_reaches_a_row_from_0(self):
        self.assertEqual(last(start(5, [0], [9]), harm(0)), [9])

    def test_a_table_that_is_reached_by_none(self):
        self.assertEqual(ask(start(5, [1000], [9]), harm(999), harm(1000))[1:], [[0], [9]])

    def test_refused_above_1000(self):
        for size in (1001, 4294967295):
            self.assertEqual(last(start(), harm(size)), [-22])


class Damage(unittest.TestCase):
    def test_nothing_harms_at_first(self):
        self.assertEqual(ask(start(), DAMAGE, read(5), DAMAGE)[1:], [[0], [0], [0]])

    def test_half_swings_harm_once(self):
        self.assertEqual(last(start(), reads(0, 50, 40, 45), DAMAGE), [7 + 1])

    def test_swings_that_are_done_harm_twice(self):
        found = ask(start(), reads(0, 200, 100, 300), DONE, HALVES, DAMAGE)
        self.assertEqual(found[2:], [[1, 100], [1, 300], [2 * 7 + 40]])

    def test_all_together(self):
        found = ask(start(), reads(0, 300, 50, 250, 240, 260, 20), DONE, HALVES, DAMAGE)
        self.assertEqual(found[2:], [[2, 10, 210], [2, 300, 280], [2 * (1 + 40) + 40 + 40]])

    def test_a_size_just_reached(self):
        for size, number in ((9, 0), (10, 1), (49, 1), (50, 7), (199, 7), (200, 40)):
            with self.subTest(size=size):
                self.assertEqual(last(start(), reads(100, 100 + size), DAMAGE), [number])
                self.assertEqual(last(start(), reads(100, 100 + size, 100, 100 + size), DAMAGE), [3 * number])

    def test_a_table_that_is_reached_by_none(self):
        found = ask(start(5, [1000], [9]), reads(0, 999, 0, 999, 1), DAMAGE, LIFE, read(1000), DAMAGE)
        self.assertEqual(found[1:], [[1], [0], [1, 10], [1], [9]])

    def test_each_start_has_its_own_table(self):
        self.assertEqual(last(start(), start(5, [3], [2]), reads(0, 3), DAMAGE), [2])

    def test_as_much_as_can_be(self):
        begun = filled(2999)
        begun[0] = start(10000000, [1000], [1000])
        self.assertEqual(ask(*begun, read(1000), DAMAGE, LIFE)[-2:], [[6001000], [1, 13999000]])


class Life(unittest.TestCase):
    def test_how_much_less_it_is(self):
        self.assertEqual(last(start(), reads(0, 50, 40, 45), LIFE), [1, 2000 - 8])

    def test_nothing_was_read(self):
        self.assertEqual(last(start(limit=1), LIFE), [1, 2])

    def test_just_twice_the_limit_and_one_more(self):
        for number, expected in ((9, [1, 1]), (10, [1, 0]), (11, [0, 0]), (1000, [0, 0])):
            with self.subTest(damage=number):
                self.assertEqual(ask(start(5, [1], [number]), reads(0, 1), DAMAGE, LIFE)[2:], [[number], expected])

    def test_limit_1(self):
        for number, expected in ((1, [1, 1]), (2, [1, 0]), (3, [0, 0])):
            with self.subTest(damage=number):
                self.assertEqual(last(start(1, [1], [number]), reads(0, 1), LIFE), expected)


class Would(unittest.TestCase):
    def test_what_the_damage_would_be_and_how_many_done(self):
        begun = (start(), reads(0, 300, 50, 250))
        expected = {0: [2 * 40 + 40 + 40, 1], 250: [40 * 3, 0], 249: [40 * 3, 0], 240: [40 * 3 + 1, 0],
                    200: [40 * 3 + 7, 0], 299: [40 * 3, 0], 300: [2 * 40 + 40, 1], 1000: [2 * 40 + 40, 1]}
        for x, numbers in expected.items():
            with self.subTest(x=x):
                self.assertEqual(last(*begun, would(x)), numbers)

    def test_several_would_be_done(self):
        self.assertEqual(last(start(), reads(0, 100, 10, 90, 20, 80, 30), would(100)), [2 * 3 * 7 + 7, 3])

    def test_nothing_was_read(self):
        self.assertEqual(ask(start(), would(0), would(1000), LEFT)[1:], [[0, 0], [0, 0], [0]])

    def test_edges_of_a_reading(self):
        found = ask(start(), read(500), would(0), would(1000), would(1001), would(4294967295))
        self.assertEqual(found[2:], [[40, 0], [40, 0], [-22], [-22]])

    def test_nothing_comes(self):
        looks = (LEFT, DONE, HALVES, DAMAGE, LIFE)
        found = ask(start(), reads(0, 300, 50, 250), *looks, would(1000), would(0), would(1001), *looks)
        self.assertEqual(found[2:7], found[-5:])

    def test_too_many_are_done_for_a_read(self):
        full = [*filled(2999), read(1000)]
        found = ask(*full, read(0), would(0), would(1000))
        self.assertEqual(found[-3:], [[-28], [3000 * 80 + 80, 0], [3000 * 80 + 40, 0]])


if __name__ == "__main__":
    unittest.main()
