"""Point 3, undo and clear."""

import unittest

from tests.helper import (
    CLEAR, CLOSE, DAMAGE, DONE, GREATEST, HALVES, LEFT, LIFE, LOOKS, STATE, TIMES, UNDO, again, ask, count, filled,
    harm, in_reads, last, mixed_rows, most, read, reads, start, would)

BEGUN = (start(), reads(0, 300, 100), CLOSE, reads(200, 150, 900, 850, 860))

STEPS = {
    "a read that does none": read(300),
    "a read that does one": read(845),
    "a read that does two": read(950),
    "a read as much as the last": read(860),
    "reads": reads(1000, 0, 500, 400, 700, 0, 1000),
    "reads as much as the last": reads(860, 860),
    "again": again(1),
    "again 20 times": again(20),
    "close": CLOSE,
}

NO_STEPS = {
    "a read above 1,000": read(1001),
    "reads of none": reads(),
    "reads above 1,000": reads(3, 1001),
    "again 0 times": again(0),
    "again 21 times": again(21),
    "a start that is refused": start(limit=0),
    "left": LEFT,
    "done": DONE,
    "halves": HALVES,
    "harm": harm(5),
    "damage": DAMAGE,
    "life": LIFE,
    "would": would(0),
    "most": most(5),
    "count": count(5, 6),
    "count that is refused": count(6, 5),
    "greatest": GREATEST,
    "times": TIMES,
    "state": STATE,
}


class Undo(unittest.TestCase):
    def test_all_is_as_it_was(self):
        before = ask(*BEGUN, *LOOKS, STATE)[len(BEGUN):]
        for name, call in STEPS.items():
            with self.subTest(name):
                found = ask(*BEGUN, call, UNDO, *LOOKS, STATE)[len(BEGUN):]
                self.assertGreaterEqual(found[0][0], 0)
                self.assertEqual(found[1:], [[3]] + before)

    def test_step_by_step(self):
        calls = [*BEGUN[1:], *STEPS.values()]
        seen = [ask(BEGUN[0], *calls[:k], *LOOKS, STATE)[1 + k:] for k in range(len(calls) + 1)]
        for k in range(len(calls) + 1):
            found = ask(BEGUN[0], *calls, *[UNDO] * k, *LOOKS, STATE)[1 + len(calls):]
            kept = len(calls) - k
            self.assertEqual(found[:k], [[number] for number in range(len(calls) - 1, kept - 1, -1)])
            self.assertEqual(found[k:], seen[kept])

    def test_what_came_after_is_as_if_it_came_first(self):
        for name, call in STEPS.items():
            with self.subTest(name):
                readings = reads(20, 990, 500, 600, 10)
                found = ask(*BEGUN, call, UNDO, readings, again(2), *LOOKS, STATE)[len(BEGUN) + 2:]
                self.assertEqual(found, ask(*BEGUN, readings, again(2), *LOOKS, STATE)[len(BEGUN):])

    def test_refused_where_there_is_nothing(self):
        self.assertEqual(ask(start(), UNDO, read(4), UNDO, UNDO, LEFT)[1:], [[-6], [0], [0], [-6], [0]])

    def test_what_is_refused_or_asked_is_no_step(self):
        for name, call in NO_STEPS.items():
            with self.subTest(name):
                found = ask(start(), read(7), call, STATE, UNDO, UNDO, LEFT)
                self.assertEqual(found[3:], [[1, 1, 0, 1], [0], [-6], [0]])

    def test_refused_where_nothing_is_open_is_no_step(self):
        for call in (CLOSE, again(1), UNDO):
            self.assertEqual(ask(start(), call, STATE, UNDO)[1:], [[-6], [0, 0, 0, 0], [-6]])

    def test_refused_for_too_many_is_no_step(self):
        full = [*filled(2999), read(1000)]
        found = ask(*full, read(0), reads(0), again(1), UNDO, LEFT)
        self.assertEqual(found[-5:], [[-28], [-28], [-28], [19], [3, 0, 1000, 0]])

    def test_it_makes_room(self):
        full = [*filled(2999), read(1000)]
        found = ask(*full, read(0), UNDO, read(0), UNDO, read(1000), read(0), STATE)
        self.assertEqual(found[-7:-1], [[-28], [19], [0], [19], [1], [-28]])
        self.assertEqual(found[-1][1:], [2, 3000, 20])

    def test_an_undo_is_no_step(self):
        found = ask(start(), read(1), read(2), UNDO, UNDO, UNDO, STATE)
        self.assertEqual(found[3:], [[1], [0], [-6], [0, 0, 0, 0]])

    def test_steps_that_change_nothing_open(self):
        found = ask(start(), read(7), read(7), CLOSE, again(2), STATE, UNDO, STATE, UNDO, UNDO, STATE, UNDO, STATE)
        self.assertEqual(found[5:], [
            [4, 1, 0, 4], [3], [2, 1, 0, 3], [2], [1], [1, 1, 0, 1], [0], [0, 0, 0, 0]])

    def test_over_many_rows(self):
        for readings in mixed_rows():
            begun = (start(), *in_reads(readings[:60]), again(1))
            steps = (*in_reads(readings[60:]), CLOSE, reads(3, 9, 1), again(3))
            found = ask(*begun, *LOOKS, STATE, *steps, *[UNDO] * len(steps), *LOOKS, STATE)
            seen = len(LOOKS) + 1
            self.assertEqual(found[len(begun):len(begun) + seen], found[-seen:], readings)


class Last20(unittest.TestCase):
    def test_the_20th_step(self):
        found = ask(start(), *[read(k) for k in range(20)], STATE, *[UNDO] * 21, STATE)
        self.assertEqual(found[21], [20, 2, 0, 20])
        self.assertEqual(found[22:], [[k] for k in range(19, -1, -1)] + [[-6], [0, 0, 0, 0]])

    def test_the_21st_step(self):
        found = ask(start(), *[read(k) for k in range(5, 26)], STATE, *[UNDO] * 21, STATE, LEFT)
        self.assertEqual(found[22], [21, 2, 0, 20])
        self.assertEqual(found[23:], [[k] for k in range(19, -1, -1)] + [[-6], [1, 1, 0, 0], [1, 5]])

    def test_the_oldest_goes_first(self):
        found = ask(start(), *[read(k * 7 % 50) for k in range(60)], *[UNDO] * 20, UNDO, *LOOKS, STATE)
        same = ask(start(), *[read(k * 7 % 50) for k in range(40)], *LOOKS, STATE)
        self.assertEqual(found[81], [-6])
        self.assertEqual(found[82:-1], same[41:-1])
        self.assertEqual(found[-1], [*same[-1][:3], 0])

    def test_of_all_kinds(self):
        steps = (read(5), reads(90, 10), again(2), CLOSE)
        found = ask(start(), *steps * 6, *[UNDO] * 21, LEFT, STATE)
        self.assertEqual(found[25:], [[k] for k in range(19, -1, -1)] + [[-6], [1, 10], [9, 1, 2, 0]])

    def test_room_for_steps_after_an_undo(self):
        begun = (start(), *[read(k) for k in range(25)])
        found = ask(*begun, UNDO, UNDO, read(900), STATE, read(0), STATE, read(9), STATE)
        self.assertEqual(found[26:], [
            [19], [18], [0], [24, 2, 0, 19], [0], [25, 3, 0, 20], [0], [26, 4, 0, 20]])


class Clear(unittest.TestCase):
    def test_how_many_were_done(self):
        for readings, number in (((4,), 0), ((4, 9), 0), ((4, 9, 4, 9), 1), ((0, 100, 10, 90, 20, 80, 30, 100), 3)):
            with self.subTest(readings=readings):
                self.assertEqual(last(start(), reads(*readings), CLEAR), [number])

    def test_nothing_is_left(self):
        found = ask(*BEGUN, again(3), CLEAR, LEFT, DONE, HALVES, DAMAGE, LIFE, most(0), count(0, 1000), GREATEST, TIMES,
                    STATE, again(1), CLOSE)
        self.assertEqual(found[6:], [
            [0], [0], [0], [0], [1, 2000], [0], [0, 0], [-33], [-33], [0, 0, 0, 0], [-6], [-6]])

    def test_it_takes_the_steps_too(self):
        self.assertEqual(ask(*BEGUN, CLEAR, UNDO, LEFT, STATE)[-3:], [[-6], [0], [0, 0, 0, 0]])
        self.assertEqual(ask(*BEGUN, CLEAR, read(4), UNDO, UNDO, STATE)[-3:], [[0], [-6], [0, 0, 0, 0]])

    def test_it_is_no_step(self):
        self.assertEqual(ask(start(), CLEAR, STATE, UNDO)[1:], [[0], [0, 0, 0, 0], [-6]])

    def test_limit_and_table_stay(self):
        found = ask(start(7, [3], [2]), reads(0, 9, 0, 9), CLEAR, LIFE, harm(2), harm(3), reads(0, 3), DAMAGE, LIFE)
        self.assertEqual(found[3:], [[1, 14], [0], [2], [0], [2], [1, 12]])

    def test_readings_come_as_after_a_start(self):
        readings = (reads(5, 105, 55, 105, 0), again(2), CLOSE, read(9))
        found = ask(*BEGUN, CLEAR, *readings, *LOOKS, STATE)
        self.assertEqual(found[5:], ask(start(), *readings, *LOOKS, STATE)[1:])

    def test_once_more(self):
        self.assertEqual(ask(start(), CLEAR, reads(4, 9, 4, 9), CLEAR, CLEAR)[1:], [[0], [1], [1], [0]])

    def test_it_makes_room(self):
        full = [*filled(2999), read(1000)]
        self.assertEqual(ask(*full, read(0), CLEAR, read(0), STATE)[-4:], [[-28], [3000], [0], [1, 1, 0, 1]])


if __name__ == "__main__":
    unittest.main()
