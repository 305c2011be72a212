"""The calls on one pack, and what they answer."""

from swingcounts.swings import TOP_SIZE, come, half_swings, harm_of, harm_of_all, is_table, make_table

START = 0

NOT_STARTED = -11
WRONG = -22
FULL = -28
NOTHING_THERE = -6
NOTHING_TO_TELL = -33

TOP_LIMIT = 10000000
TOP_READING = 1000
MOST_DONE = 3000
MOST_TIMES = 20
MOST_STEPS = 20


class Tally:
    """What the readings have come to since the last start or clear: all that an undo takes back."""

    def __init__(self):
        self.came = 0
        self.row = []
        self.sizes_done = []
        # What of the damage stays, whatever comes: twice the harm of what is done, and what was closed.
        # It is a sum, so that no call needs to go through all swings for it.
        self.harm_kept = 0


class Pack:
    def __init__(self):
        self.started = False
        self.limit = 0
        self.table = []
        self.tally = Tally()
        # The tallies as they were before each of the last steps, the newest last.
        self.steps = []


class Line:
    """A list of calls, and the place up to which it was gone through."""

    def __init__(self, calls):
        self.calls = calls
        self.place = 0

    def has_more(self):
        return self.place < len(self.calls)

    def take_number(self):
        found = self.calls[self.place]
        self.place += 1
        return found

    def take_row(self):
        size = self.take_number()
        found = self.calls[self.place:self.place + size]
        self.place += size
        return found


def copy_of(tally):
    other = Tally()
    other.came = tally.came
    other.row = list(tally.row)
    other.sizes_done = list(tally.sizes_done)
    other.harm_kept = tally.harm_kept
    return other


def take_in(tally, table, readings):
    """Let the readings come; give back how many swings were done by them."""
    before = len(tally.sizes_done)
    for reading in readings:
        gone = come(tally.row, reading)
        tally.sizes_done.extend(gone)
        tally.harm_kept += 2 * harm_of_all(table, gone)
    tally.came += len(readings)
    return len(tally.sizes_done) - before


def damage_of(tally, table):
    return tally.harm_kept + harm_of_all(table, half_swings(tally.row))


def damage_now(pack):
    return damage_of(pack.tally, pack.table)


def forget(pack):
    pack.tally = Tally()
    pack.steps = []


def keep_step(pack):
    pack.steps.append(copy_of(pack.tally))
    if len(pack.steps) > MOST_STEPS:
        pack.steps.pop(0)


def come_as_step(pack, readings):
    keep_step(pack)
    return take_in(pack.tally, pack.table, readings)


def has_room(pack, number):
    # One reading may end several swings, so more than MOST_DONE can already be done.
    return len(pack.tally.sizes_done) + number <= MOST_DONE


def number_between(sizes, least, top):
    return len([size for size in sizes if least <= size <= top])


def counted(numbers):
    return [len(numbers)] + numbers


def start(pack, told):
    limit = told[0]
    froms = told[1]
    harms = told[2]
    if limit < 1 or limit > TOP_LIMIT or not is_table(froms, harms):
        return [WRONG]
    pack.started = True
    pack.limit = limit
    pack.table = make_table(froms, harms)
    forget(pack)
    return [0]


def read(pack, told):
    reading = told[0]
    if reading > TOP_READING:
        return [WRONG]
    if not has_room(pack, 1):
        return [FULL]
    return [come_as_step(pack, [reading])]


def reads(pack, told):
    readings = told[0]
    if len(readings) == 0 or max(readings) > TOP_READING:
        return [WRONG]
    if not has_room(pack, len(readings)):
        return [FULL]
    return [come_as_step(pack, readings)]


def left(pack, told):
    return counted(pack.tally.row)


def done(pack, told):
    return counted(pack.tally.sizes_done)


def halves(pack, told):
    return counted(half_swings(pack.tally.row))


def harm(pack, told):
    size = told[0]
    if size > TOP_SIZE:
        return [WRONG]
    return [harm_of(pack.table, size)]


def damage(pack, told):
    return [damage_now(pack)]


def life(pack, told):
    spare = 2 * pack.limit - damage_now(pack)
    if spare < 0:
        return [0, 0]
    return [1, spare]


def would(pack, told):
    reading = told[0]
    if reading > TOP_READING:
        return [WRONG]
    tried = copy_of(pack.tally)
    number_done = take_in(tried, pack.table, [reading])
    return [damage_of(tried, pack.table), number_done]


def most(pack, told):
    least = told[0]
    return [len([size for size in pack.tally.sizes_done if size >= least])]


def count(pack, told):
    least = told[0]
    top = told[1]
    if top < least:
        return [WRONG]
    tally = pack.tally
    return [number_between(tally.sizes_done, least, top), number_between(half_swings(tally.row), least, top)]


def greatest(pack, told):
    row = pack.tally.row
    # Whatever was read, its last reading is open: an empty row tells that nothing was.
    if len(row) == 0:
        return [NOTHING_TO_TELL]
    sizes = pack.tally.sizes_done + half_swings(row)
    return [max(sizes, default=0), max(row), min(row)]


def again(pack, told):
    how_often = told[0]
    row = pack.tally.row
    if how_often < 1 or how_often > MOST_TIMES:
        return [WRONG]
    if len(row) == 0:
        return [NOTHING_THERE]
    if not has_room(pack, how_often * len(row)):
        return [FULL]
    return [come_as_step(pack, row * how_often)]


def times(pack, told):
    row = pack.tally.row
    if len(row) == 0:
        return [NOTHING_TO_TELL]
    tried = copy_of(pack.tally)
    take_in(tried, pack.table, row)
    once = damage_of(tried, pack.table)
    take_in(tried, pack.table, row)
    return [once, damage_of(tried, pack.table)]


def undo(pack, told):
    if len(pack.steps) == 0:
        return [NOTHING_THERE]
    pack.tally = pack.steps.pop()
    return [len(pack.steps)]


def clear(pack, told):
    number_done = len(pack.tally.sizes_done)
    forget(pack)
    return [number_done]


def close(pack, told):
    tally = pack.tally
    if len(tally.row) == 0:
        return [NOTHING_THERE]
    keep_step(pack)
    sizes = half_swings(tally.row)
    tally.harm_kept += harm_of_all(pack.table, sizes)
    tally.row = [tally.row[-1]]
    return [len(sizes)]


def state(pack, told):
    tally = pack.tally
    return [tally.came, len(tally.row), len(tally.sizes_done), len(pack.steps)]


CALLS = {
    0: start,
    1: read,
    2: reads,
    3: left,
    4: done,
    5: halves,
    6: harm,
    7: damage,
    8: life,
    9: would,
    10: most,
    11: count,
    12: greatest,
    13: again,
    14: times,
    15: undo,
    16: clear,
    17: close,
    18: state,
}

# For each call: how many whole numbers it has, then how many rows.
SHAPES = {
    0: (1, 2),
    1: (1, 0),
    2: (0, 1),
    3: (0, 0),
    4: (0, 0),
    5: (0, 0),
    6: (1, 0),
    7: (0, 0),
    8: (0, 0),
    9: (1, 0),
    10: (1, 0),
    11: (2, 0),
    12: (0, 0),
    13: (1, 0),
    14: (0, 0),
    15: (0, 0),
    16: (0, 0),
    17: (0, 0),
    18: (0, 0),
}


def take_told(line, shape):
    numbers = [line.take_number() for k in range(shape[0])]
    rows = [line.take_row() for k in range(shape[1])]
    return numbers + rows


def answer_call(pack, number, told):
    if number != START and not pack.started:
        return [NOT_STARTED]
    call = CALLS[number]
    return call(pack, told)


def answers(calls):
    """Answer each call of the list: how many numbers are answered, then these."""
    pack = Pack()
    line = Line(calls)
    given = []
    while line.has_more():
        number = line.take_number()
        told = take_told(line, SHAPES[number])
        given.extend(counted(answer_call(pack, number, told)))
    return given
