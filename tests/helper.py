"""Writes calls as the interface tells, and parts what is answered call by call."""

import itertools
import random

from swingcounts.pack import answers

PLAIN_LIMIT = 1000
PLAIN_FROMS = [10, 50, 200]
PLAIN_HARMS = [1, 7, 40]


def start(limit=PLAIN_LIMIT, froms=PLAIN_FROMS, harms=PLAIN_HARMS):
    return [0, limit, len(froms), *froms, len(harms), *harms]


def read(x):
    return [1, x]


def reads(*readings):
    return [2, len(readings), *readings]


def harm(n):
    return [6, n]


def would(x):
    return [9, x]


def most(n):
    return [10, n]


def count(a, b):
    return [11, a, b]


def again(n):
    return [13, n]


LEFT = [3]
DONE = [4]
HALVES = [5]
DAMAGE = [7]
LIFE = [8]
GREATEST = [12]
TIMES = [14]
UNDO = [15]
CLEAR = [16]
CLOSE = [17]
STATE = [18]

# All that can be seen of an object but how many steps can be taken back.
LOOKS = (LEFT, DONE, HALVES, DAMAGE, LIFE, GREATEST, TIMES, would(0), would(700), most(50), count(7, 200), harm(50))


def parted(given):
    """What is answered, one list a call."""
    found = []
    place = 0
    while place < len(given):
        size = given[place]
        numbers = given[place + 1:place + 1 + size]
        if size < 1 or len(numbers) != size:
            raise AssertionError(f"no whole answer at {place} of {given}")
        found.append(numbers)
        place += 1 + size
    return found


def ask(*calls):
    """The answers to the calls on one new object, one list a call."""
    found = parted(answers([number for call in calls for number in call]))
    if len(found) != len(calls):
        raise AssertionError(f"{len(calls)} calls, but {len(found)} answers")
    return found


def last(*calls):
    return ask(*calls)[-1]


def in_reads(readings):
    """Calls of reads, of at most 60 readings each, for all the readings."""
    return [reads(*readings[k:k + 60]) for k in range(0, len(readings), 60)]


def filled(number_done, first=(0, 1000, 0), pair=(1000, 0)):
    """A start and the calls after which so many swings are done, at most 2,999.

    The pair does one swing each time that it comes, and leaves open what first left."""
    calls = [start(), reads(*first)]
    done = 0
    while done < number_done:
        # reads counts each reading as a swing before it lets them come.
        swings = min(number_done - done, 30, (3000 - done) // 2)
        calls.append(reads(*pair * swings))
        done += swings
    return calls


def small_rows():
    """Every row of one to six readings from 0 to 3."""
    for size in range(1, 7):
        for row in itertools.product(range(4), repeat=size):
            yield list(row)


def mixed_rows():
    """Rows of many kinds, the same ones each time."""
    chance = random.Random(20)
    for top in (2, 5, 20, 100, 1000):
        for _ in range(40):
            size = chance.randint(1, 150)
            yield [chance.randint(0, top) for _ in range(size)]
    for _ in range(20):
        size = chance.randint(1, 60)
        grows = [500 + (k if k % 2 else -k) for k in range(size)]
        yield grows + list(reversed(grows)) + [chance.randint(0, 1000)]
