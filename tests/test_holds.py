"""What holds: a, b and c, over many rows of readings."""

import itertools
import random
import unittest

from tests.helper import (
    DAMAGE, DONE, HALVES, LEFT, LIFE, ask, harm, in_reads, mixed_rows, read, reads, small_rows, start, would)

LOOKS = (LEFT, DONE, HALVES, DAMAGE, LIFE)
FINE_TABLE = start(50, [1, 2, 3, 10, 300], [1, 4, 4, 9, 700])


def every_row():
    return itertools.chain(small_rows(), mixed_rows())


def seen(readings):
    """Left, done and halves after the readings."""
    found = ask(FINE_TABLE, *in_reads(readings), LEFT, DONE, HALVES)
    return [answer[1:] for answer in found[-3:]]


def swings(row):
    return [abs(a - b) for a, b in zip(row, row[1:])]


def turns(readings):
    """The readings without those that lie between their neighbours."""
    row = [x for k, x in enumerate(readings) if k == 0 or readings[k - 1] != x]
    inner = [x for x, a, b in zip(row[1:], row, row[2:]) if (a < x) != (x < b)]
    return row[:1] + inner + row[1:][-1:]


def inner_places(row):
    sizes = swings(row)
    return [k for k in range(1, len(sizes) - 1) if sizes[k - 1] >= sizes[k] <= sizes[k + 1]]


def taken_out_anywhere(row, choose):
    """What is left, and the swings taken out, where choose says which inner one goes next."""
    gone = []
    places = inner_places(row)
    while places:
        place = choose(places)
        gone.append(abs(row[place] - row[place + 1]))
        row = row[:place] + row[place + 2:]
        places = inner_places(row)
    return row, gone


class WhatIsOpen(unittest.TestCase):
    def test_up_and_down_in_turn(self):
        for readings in every_row():
            row = seen(readings)[0]
            self.assertNotIn(0, swings(row), readings)
            for before, middle, behind in zip(row, row[1:], row[2:]):
                self.assertEqual(before < middle, behind < middle, readings)

    def test_no_inner_swing(self):
        for readings in every_row():
            self.assertEqual(inner_places(seen(readings)[0]), [], readings)

    def test_ends_with_the_last_reading(self):
        for readings in every_row():
            self.assertEqual(seen(readings)[0][-1], readings[-1], readings)

    def test_halves_are_those_between_neighbours(self):
        for readings in every_row():
            row, _, halves = seen(readings)
            self.assertEqual(halves, swings(row), readings)

    def test_as_far_as_one_went(self):
        for readings in every_row():
            _, sizes, halves = seen(readings)
            self.assertEqual(2 * sum(sizes) + sum(halves), sum(swings(readings)), readings)


class Order(unittest.TestCase):
    def test_in_whatever_pieces(self):
        chance = random.Random(3)
        for readings in mixed_rows():
            pieces = []
            rest = readings
            while rest:
                size = chance.randint(1, min(60, len(rest)))
                pieces.append(read(rest[0]) if size == 1 else reads(*rest[:size]))
                rest = rest[size:]
            one_by_one = ask(FINE_TABLE, *[read(x) for x in readings], *LOOKS)
            in_pieces = ask(FINE_TABLE, *pieces, *LOOKS)
            self.assertEqual(one_by_one[-5:], in_pieces[-5:], readings)
            self.assertEqual(sum(a[0] for a in one_by_one[1:-5]), sum(a[0] for a in in_pieces[1:-5]), readings)

    def test_small_rows_one_by_one_and_at_once(self):
        for readings in small_rows():
            one_by_one = ask(FINE_TABLE, *[read(x) for x in readings], *LOOKS)
            at_once = ask(FINE_TABLE, reads(*readings), *LOOKS)
            self.assertEqual(one_by_one[-5:], at_once[-5:], readings)

    def test_in_whatever_order_inner_swings_are_taken_out(self):
        chance = random.Random(4)
        for readings in every_row():
            row, sizes, _ = seen(readings)
            for choose in (min, max, chance.choice):
                other_row, other_sizes = taken_out_anywhere(turns(readings), choose)
                self.assertEqual(row, other_row, readings)
                self.assertEqual(sorted(sizes), sorted(other_sizes), readings)


class More(unittest.TestCase):
    def test_never_heals(self):
        for readings in every_row():
            calls = [call for x in readings[:95] for call in (read(x), DAMAGE)]
            damages = [answer[0] for answer in ask(FINE_TABLE, *calls)[2::2]]
            self.assertEqual(damages, sorted(damages), readings)

    def test_some_swing_goes_as_far_as_from_the_least_to_the_greatest(self):
        for readings in every_row():
            _, sizes, halves = seen(readings)
            self.assertEqual(max(sizes + halves, default=0), max(readings) - min(readings), readings)

    def test_would_tells_what_a_read_then_does(self):
        for readings in every_row():
            calls = [call for x in readings[:60] for call in (would(x), read(x), DAMAGE)]
            found = ask(FINE_TABLE, *calls)[1:]
            for told, came, damage in zip(found[::3], found[1::3], found[2::3]):
                self.assertEqual(told, damage + came, readings)


class Sums(unittest.TestCase):
    def test_damage_and_life_are_summed_from_harm(self):
        harms = [answer[0] for k in range(0, 1001, 100)
                 for answer in ask(FINE_TABLE, *[harm(n) for n in range(k, min(k + 100, 1001))])[1:]]
        for readings in mixed_rows():
            _, sizes, halves = seen(readings)
            damage = 2 * sum(harms[n] for n in sizes) + sum(harms[n] for n in halves)
            life = [1, 100 - damage] if damage <= 100 else [0, 0]
            self.assertEqual(ask(FINE_TABLE, *in_reads(readings), DAMAGE, LIFE)[-2:], [[damage], life], readings)


if __name__ == "__main__":
    unittest.main()
