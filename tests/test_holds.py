"""What holds: a, b and c, over many rows of readings."""

import itertools
import random
import unittest

from tests.helper import (
    CLEAR, CLOSE, DAMAGE, DONE, HALVES, LEFT, LIFE, LOOKS, UNDO, again, ask, harm, in_reads, last, mixed_rows, read,
    reads, small_rows, start, would)

FINE_TABLE = start(50, [1, 2, 3, 10, 300], [1, 4, 4, 9, 700])


def every_row():
    return itertools.chain(small_rows(), mixed_rows())


def seen(readings):
    """Left, done and halves after the readings."""
    found = ask(FINE_TABLE, *in_reads(readings), LEFT, DONE, HALVES)
    return [answer[1:] for answer in found[-3:]]


def swings(row):
    return [abs(a - b) for a, b in zip(row, row[1:])]


def turns(readings):
    """The readings without those that lie between their neighbours."""
    row = [x for k, x in enumerate(readings) if k == 0 or readings[k - 1] != x]
    inner = [x for x, a, b in zip(row[1:], row, row[2:]) if (a < x) != (x < b)]
    return row[:1] + inner + row[1:][-1:]


def inner_places(row):
    sizes = swings(row)
    return [k for k in range(1, len(sizes) - 1) if sizes[k - 1] >= sizes[k] <= sizes[k + 1]]


def taken_out_anywhere(row, choose):
    """What is left, and the swings taken out, where choose says which inner one goes next."""
    gone = []
    places = inner_places(row)
    while places:
        place = choose(places)
        gone.append(abs(row[place] - row[place + 1]))
        row = row[:place] + row[place + 2:]
        places = inner_places(row)
    return row, gone


def walks():
    """Steps of all kinds, and the readings that came by them: since the last clear, without what was taken back,
    parted where a close was. The reading that a close left open begins the next part."""
    chance = random.Random(5)
    for readings in mixed_rows():
        calls = [FINE_TABLE]
        parts = [[[]]]
        rest = readings
        while rest:
            size = chance.randint(1, 12)
            calls.append(reads(*rest[:size]))
            parts.append([*parts[-1][:-1], parts[-1][-1] + rest[:size]])
            rest = rest[size:]
            kind = chance.randint(0, 9)
            if kind < 3:
                row = last(*calls, LEFT)[1:]
                calls.append(again(1 + kind))
                parts.append([*parts[-1][:-1], parts[-1][-1] + row * (1 + kind)])
            elif kind == 3:
                calls.append(CLOSE)
                parts.append([*parts[-1], parts[-1][-1][-1:]])
            elif kind == 4:
                calls.append(UNDO)
                parts.pop()
            elif kind == 5 and chance.randint(0, 3) == 0:
                calls.append(CLEAR)
                parts = [[[]]]
        yield calls, parts[-1]


def seen_apart(part):
    return seen(part) if part else [[], [], []]


class WhatIsOpen(unittest.TestCase):
    def test_up_and_down_in_turn(self):
        for readings in every_row():
            row = seen(readings)[0]
            self.assertNotIn(0, swings(row), readings)
            for before, middle, behind in zip(row, row[1:], row[2:]):
                self.assertEqual(before < middle, behind < middle, readings)

    def test_no_inner_swing(self):
        for readings in every_row():
            self.assertEqual(inner_places(seen(readings)[0]), [], readings)

    def test_ends_with_the_last_reading(self):
        for readings in every_row():
            self.assertEqual(seen(readings)[0][-1], readings[-1], readings)

    def test_halves_are_those_between_neighbours(self):
        for readings in every_row():
            row, _, halves = seen(readings)
            self.assertEqual(halves, swings(row), readings)

    def test_as_far_as_one_went(self):
        for readings in every_row():
            _, sizes, halves = seen(readings)
            self.assertEqual(2 * sum(sizes) + sum(halves), sum(swings(readings)), readings)


class Order(unittest.TestCase):
    def test_in_whatever_pieces(self):
        chance = random.Random(3)
        for readings in mixed_rows():
            pieces = []
            rest = readings
            while rest:
                size = chance.randint(1, min(60, len(rest)))
                pieces.append(read(rest[0]) if size == 1 else reads(*rest[:size]))
                rest = rest[size:]
            one_by_one = ask(FINE_TABLE, *[read(x) for x in readings], *LOOKS)
            in_pieces = ask(FINE_TABLE, *pieces, *LOOKS)
            seen_last = len(LOOKS)
            self.assertEqual(one_by_one[-seen_last:], in_pieces[-seen_last:], readings)
            self.assertEqual(sum(answer[0] for answer in one_by_one[1:-seen_last]),
                             sum(answer[0] for answer in in_pieces[1:-seen_last]), readings)

    def test_small_rows_one_by_one_and_at_once(self):
        for readings in small_rows():
            one_by_one = ask(FINE_TABLE, *[read(x) for x in readings], *LOOKS)
            at_once = ask(FINE_TABLE, reads(*readings), *LOOKS)
            self.assertEqual(one_by_one[-len(LOOKS):], at_once[-len(LOOKS):], readings)

    def test_in_whatever_order_inner_swings_are_taken_out(self):
        chance = random.Random(4)
        for readings in every_row():
            row, sizes, _ = seen(readings)
            for choose in (min, max, chance.choice):
                other_row, other_sizes = taken_out_anywhere(turns(readings), choose)
                self.assertEqual(row, other_row, readings)
                self.assertEqual(sorted(sizes), sorted(other_sizes), readings)


class More(unittest.TestCase):
    def test_never_heals(self):
        for readings in every_row():
            calls = [call for x in readings[:95] for call in (read(x), DAMAGE)]
            damages = [answer[0] for answer in ask(FINE_TABLE, *calls)[2::2]]
            self.assertEqual(damages, sorted(damages), readings)

    def test_some_swing_goes_as_far_as_from_the_least_to_the_greatest(self):
        for readings in every_row():
            _, sizes, halves = seen(readings)
            self.assertEqual(max(sizes + halves, default=0), max(readings) - min(readings), readings)

    def test_would_tells_what_a_read_then_does(self):
        for readings in every_row():
            calls = [call for x in readings[:60] for call in (would(x), read(x), DAMAGE)]
            found = ask(FINE_TABLE, *calls)[1:]
            for told, came, damage in zip(found[::3], found[1::3], found[2::3]):
                self.assertEqual(told, damage + came, readings)


class AllSteps(unittest.TestCase):
    """The same with again, undo, clear and close among the calls."""

    def test_what_is_open(self):
        for calls, parts in walks():
            row, halves = [answer[1:] for answer in ask(*calls, LEFT, HALVES)[-2:]]
            self.assertEqual(row, seen_apart(parts[-1])[0], calls)
            self.assertEqual(halves, swings(row), calls)
            self.assertEqual(inner_places(row), [], calls)
            self.assertNotIn(0, halves, calls)
            for before, middle, behind in zip(row, row[1:], row[2:]):
                self.assertEqual(before < middle, behind < middle, calls)

    def test_as_far_as_one_went(self):
        for calls, parts in walks():
            closed = sum(sum(seen_apart(part)[2]) for part in parts[:-1])
            sizes, halves = [answer[1:] for answer in ask(*calls, DONE, HALVES)[-2:]]
            self.assertEqual(2 * sum(sizes) + sum(halves) + closed, sum(sum(swings(part)) for part in parts), calls)

    def test_each_part_does_what_it_does_by_itself(self):
        for calls, parts in walks():
            apart = [n for part in parts for n in seen_apart(part)[1]]
            self.assertEqual(last(*calls, DONE)[1:], apart, calls)

    def test_in_whatever_pieces(self):
        chance = random.Random(6)
        for calls, parts in walks():
            others = [FINE_TABLE]
            for part in parts:
                # What the close left open is there already.
                rest = part if len(others) == 1 else part[1:]
                others += [CLOSE] if len(others) > 1 else []
                while rest:
                    size = chance.randint(1, 60)
                    others.append(reads(*rest[:size]))
                    rest = rest[size:]
            self.assertEqual(ask(*calls, *LOOKS)[-len(LOOKS):], ask(*others, *LOOKS)[-len(LOOKS):], calls)

    def test_never_heals(self):
        for calls, _ in walks():
            found = ask(*[call for step in calls for call in (step, DAMAGE)])[1::2]
            for step, before, after in zip(calls[1:], found, found[1:]):
                if step not in (UNDO, CLEAR):
                    self.assertGreaterEqual(after[0], before[0], calls)

    def test_some_swing_goes_as_far_as_from_the_least_to_the_greatest(self):
        for calls, parts in walks():
            sizes, halves = [answer[1:] for answer in ask(*calls, DONE, HALVES)[-2:]]
            number_before = sum(len(seen_apart(part)[1]) for part in parts[:-1])
            furthest = max(parts[-1], default=0) - min(parts[-1], default=0)
            self.assertEqual(max(sizes[number_before:] + halves, default=0), furthest, calls)


class Sums(unittest.TestCase):
    def test_damage_and_life_are_summed_from_harm(self):
        harms = [answer[0] for k in range(0, 1001, 100)
                 for answer in ask(FINE_TABLE, *[harm(n) for n in range(k, min(k + 100, 1001))])[1:]]
        for readings in mixed_rows():
            _, sizes, halves = seen(readings)
            damage = 2 * sum(harms[n] for n in sizes) + sum(harms[n] for n in halves)
            life = [1, 100 - damage] if damage <= 100 else [0, 0]
            self.assertEqual(ask(FINE_TABLE, *in_reads(readings), DAMAGE, LIFE)[-2:], [[damage], life], readings)


if __name__ == "__main__":
    unittest.main()
