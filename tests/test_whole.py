"""Whole lists of calls, all kinds mixed, against the document's words gone through from the beginning each time."""

import random
import time
import unittest

from swingcounts.pack import answers
from tests.helper import (
    CLEAR, CLOSE, DAMAGE, DONE, GREATEST, HALVES, LEFT, LIFE, STATE, TIMES, UNDO, again, ask, count, filled, harm,
    in_reads, most, parted, read, reads, start, would)

SHORT_TIME = 10

TABLES = (([10, 50, 200], [1, 7, 40]), ([1, 2, 3, 4, 5, 6, 7, 8], [0, 1, 1, 2, 5, 9, 9, 11]), ([1000], [1000]),
          ([0], [3]))


class Gone:
    """What is there after the steps: each a list of readings, or None for a close."""

    def __init__(self, table, steps):
        self.table = table
        self.row = []
        self.done = []
        self.closed = []
        self.came = 0
        for step in steps:
            if step is None:
                self.closed += self.halves()
                self.row = self.row[-1:]
            else:
                for reading in step:
                    self.come(reading)

    def halves(self):
        return [abs(a - b) for a, b in zip(self.row, self.row[1:])]

    def come(self, reading):
        self.came += 1
        if self.row[-2:-1] and sorted([self.row[-2], self.row[-1], reading])[1] == self.row[-1]:
            self.row = self.row[:-1] + [reading]
        elif self.row != [reading]:
            self.row = self.row + [reading]
        while len(self.row) > 3:
            a, b, c, d = self.row[-4:]
            if abs(b - c) > min(abs(a - b), abs(c - d)):
                break
            self.done.append(abs(b - c))
            self.row = self.row[:-3] + [d]

    def harm(self, size):
        return ([0] + [harm for least, harm in zip(*self.table) if size >= least])[-1]

    def damage(self):
        return sum(self.harm(n) for n in self.done + self.done + self.closed + self.halves())


class Words:
    """Answers call by call; keeps nothing but the steps, and begins anew with them for each answer."""

    def __init__(self):
        self.limit = None
        self.steps = []
        self.number_of_steps = 0

    def after(self, *steps):
        return Gone(self.table, self.steps + list(steps))

    def step(self, step, room):
        before = self.after()
        if len(before.done) + room > 3000:
            return [-28]
        self.steps.append(step)
        self.number_of_steps = min(20, self.number_of_steps + 1)
        return [len(before.row) - 1 if step is None else len(self.after().done) - len(before.done)]

    def answer(self, call):
        number, told = call[0], call[1:]
        if number == 0:
            return self.start(told)
        if self.limit is None:
            return [-11]
        if number in (1, 2, 13, 15, 16, 17):
            return self.change(number, told)
        return self.look(number, told, self.after())

    def start(self, told):
        froms = told[2:2 + told[1]]
        harms = told[3 + told[1]:]
        told_so = (1 <= told[0] <= 10000000 and 1 <= len(froms) <= 8 and len(froms) == len(harms)
                   and sorted(set(froms)) == froms and sorted(harms) == harms and max(froms + harms) <= 1000)
        if not told_so:
            return [-22]
        self.limit = told[0]
        self.table = (froms, harms)
        self.steps = []
        self.number_of_steps = 0
        return [0]

    def change(self, number, told):
        row = self.after().row
        if number in (1, 2):
            readings = told if number == 1 else told[1:]
            return self.step(readings, len(readings)) if readings and max(readings) <= 1000 else [-22]
        if number == 13 and told[0] not in range(1, 21):
            return [-22]
        if number in (13, 17) and not row or number == 15 and self.number_of_steps == 0:
            return [-6]
        if number == 13:
            return self.step(row * told[0], len(row) * told[0])
        if number == 17:
            return self.step(None, -9999)
        if number == 15:
            self.steps.pop()
            self.number_of_steps -= 1
            return [self.number_of_steps]
        before = len(self.after().done)
        self.steps = []
        self.number_of_steps = 0
        return [before]

    def look(self, number, told, gone):
        if number in (3, 4, 5):
            numbers = (gone.row, gone.done, gone.halves())[number - 3]
            return [len(numbers), *numbers]
        if number in (6, 9) and told[0] > 1000 or number == 11 and told[1] < told[0]:
            return [-22]
        if number in (12, 14) and not gone.row:
            return [-33]
        spare = 2 * self.limit - gone.damage()
        return {
            6: lambda: [gone.harm(told[0])],
            7: lambda: [gone.damage()],
            8: lambda: [int(spare >= 0), max(spare, 0)],
            9: lambda: [self.after(told).damage(), len(self.after(told).done) - len(gone.done)],
            10: lambda: [sum(told[0] <= n for n in gone.done)],
            11: lambda: [sum(told[0] <= n <= told[1] for n in sizes) for sizes in (gone.done, gone.halves())],
            12: lambda: [max([0] + gone.done + gone.halves()), max(gone.row), min(gone.row)],
            14: lambda: [self.after(gone.row).damage(), self.after(gone.row * 2).damage()],
            18: lambda: [gone.came, len(gone.row), len(gone.done), self.number_of_steps],
        }[number]()


def by_the_words(calls):
    words = Words()
    return [words.answer(list(call)) for call in calls]


def any_start(chance):
    froms, harms = chance.choice(TABLES)
    return start(chance.choice((0, 1, 5, 400, 10000000, 10000001)), froms, harms)


def any_call(chance, top):
    reading = chance.choice((0, top, 1001, *[chance.randint(0, top) for _ in range(17)]))
    row = [chance.randint(0, top) for _ in range(chance.randint(0, 9))]
    often = chance.choice((0, 1, 1, 2, 3, 20, 21))
    calls = (
        [(8, read(reading)), (8, reads(*row)), (3, again(often)), (5, UNDO), (2, CLOSE)]
        + [(1, call) for call in (LEFT, DONE, HALVES, DAMAGE, LIFE, GREATEST, TIMES, STATE, harm(reading))]
        + [(1, would(reading)), (1, most(reading)), (1, count(reading, chance.randint(0, top)))])
    return chance.choices([call for _, call in calls], [weight for weight, _ in calls])[0]


def any_line(chance):
    top = chance.choice((2, 10, 60, 1000))
    calls = [any_call(chance, top) for _ in range(chance.randint(0, 3))]
    while len(calls) < 200:
        kind = chance.randint(0, 99)
        if kind < 2 or len(calls) == 3:
            calls.append(any_start(chance))
        else:
            calls.append(CLEAR if kind == 2 else any_call(chance, top))
    return calls


def long_line():
    """Reads of 60 each until 3,000 swings are done, and calls of all kinds among them."""
    chance = random.Random(8)
    looks = (LEFT, DONE, HALVES, DAMAGE, LIFE, GREATEST, TIMES, STATE, would(700), most(500), count(1, 999), harm(5),
             UNDO, CLOSE, again(1))
    calls = [*filled(2940), CLOSE, reads(*[500 + (k if k % 2 else -k) for k in range(20)])]
    for _ in range(20):
        calls.append(chance.choice(looks))
        calls.append(chance.choice((read(chance.choice((0, 1000))), reads(*[0, 1000] * 2))))
    calls += [reads(*[0, 1000] * 5)] * 8 + [read(0), read(1000)] * 20
    return calls + [STATE, UNDO, read(1000), TIMES, again(1), DONE, CLEAR, read(0), STATE]


def long_row():
    """As many readings as can be open, and then what goes through all of them."""
    grows = [500 + (k // 2 + 1 if k % 2 else -(k // 2)) for k in range(1000)]
    begun = [start(10000000, list(range(1, 9)), [1] * 8), *in_reads(grows + grows[-2::-1])]
    looks = [TIMES, DAMAGE, would(500), HALVES, GREATEST, again(1), LEFT, STATE, UNDO, read(500)]
    return begun + [looks[k % len(looks)] for k in range(200 - len(begun))]


def flat(calls):
    return [number for call in calls for number in call]


class Mixed(unittest.TestCase):
    def test_all_kinds(self):
        chance = random.Random(7)
        for _ in range(120):
            calls = any_line(chance)
            self.assertEqual(len(calls), 200)
            for call, found, expected in zip(calls, ask(*calls), by_the_words(calls)):
                self.assertEqual(found, expected, (call, calls))

    def test_until_3000_are_done(self):
        calls = long_line()
        found = ask(*calls)
        self.assertEqual(found, by_the_words(calls))
        self.assertIn([-28], found)
        self.assertEqual([answer[0] for call, answer in zip(calls, found) if call == CLEAR], [3000])

    def test_a_long_row(self):
        calls = long_row()
        found = ask(*calls)
        self.assertEqual(found, by_the_words(calls))
        self.assertEqual(max(answer[1] for call, answer in zip(calls, found) if call == STATE), 1999)


class Long(unittest.TestCase):
    def test_in_a_short_time(self):
        for calls in (long_line(), long_row(), [*long_row()[:60], *[TIMES] * 140], [*filled(2999), *[DONE] * 90]):
            self.assertLessEqual(len(calls), 200)
            began = time.perf_counter()
            answers(flat(calls))
            self.assertLess(time.perf_counter() - began, SHORT_TIME)

    def test_what_is_handed_in_stays_as_it_was(self):
        chance = random.Random(9)
        for calls in [long_line(), long_row()] + [any_line(chance) for _ in range(30)]:
            numbers = flat(calls)
            first = answers(numbers)
            self.assertEqual(numbers, flat(calls))
            self.assertEqual(answers(numbers), first)
            self.assertEqual({number.__class__ for number in first}, {int})
            self.assertEqual(len(parted(first)), len(calls))


if __name__ == "__main__":
    unittest.main()
