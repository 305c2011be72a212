"""The calls on one pack, and what they answer."""

from swingcounts.swings import TOP_SIZE, come, half_swings, harm_of, harm_of_all, is_table, make_table

START = 0

NOT_STARTED = -11
WRONG = -22
FULL = -28

TOP_LIMIT = 10000000
TOP_READING = 1000
MOST_DONE = 3000


class Pack:
    def __init__(self):
        self.started = False
        self.limit = 0
        self.table = []
        self.row = []
        self.sizes_done = []
        # Kept as a sum, so that no call needs to go through all swings that are done.
        self.harm_done = 0


class Line:
    """A list of calls, and the place up to which it was gone through."""

    def __init__(self, calls):
        self.calls = calls
        self.place = 0

    def has_more(self):
        return self.place < len(self.calls)

    def take_number(self):
        found = self.calls[self.place]
        self.place += 1
        return found

    def take_row(self):
        size = self.take_number()
        found = self.calls[self.place:self.place + size]
        self.place += size
        return found


def take_in(pack, readings):
    before = len(pack.sizes_done)
    for reading in readings:
        gone = come(pack.row, reading)
        pack.sizes_done.extend(gone)
        pack.harm_done += harm_of_all(pack.table, gone)
    return len(pack.sizes_done) - before


def damage_of(pack, row, harm_done):
    return 2 * harm_done + harm_of_all(pack.table, half_swings(row))


def damage_now(pack):
    return damage_of(pack, pack.row, pack.harm_done)


def counted(numbers):
    return [len(numbers)] + numbers


def start(pack, told):
    limit = told[0]
    froms = told[1]
    harms = told[2]
    if limit < 1 or limit > TOP_LIMIT or not is_table(froms, harms):
        return [WRONG]
    pack.started = True
    pack.limit = limit
    pack.table = make_table(froms, harms)
    pack.row = []
    pack.sizes_done = []
    pack.harm_done = 0
    return [0]


def read(pack, told):
    reading = told[0]
    if reading > TOP_READING:
        return [WRONG]
    # One reading may end several swings, so more than MOST_DONE can be done.
    if len(pack.sizes_done) >= MOST_DONE:
        return [FULL]
    return [take_in(pack, [reading])]


def reads(pack, told):
    readings = told[0]
    if len(readings) == 0 or max(readings) > TOP_READING:
        return [WRONG]
    if len(pack.sizes_done) + len(readings) > MOST_DONE:
        return [FULL]
    return [take_in(pack, readings)]


def left(pack, told):
    return counted(pack.row)


def done(pack, told):
    return counted(pack.sizes_done)


def halves(pack, told):
    return counted(half_swings(pack.row))


def harm(pack, told):
    size = told[0]
    if size > TOP_SIZE:
        return [WRONG]
    return [harm_of(pack.table, size)]


def damage(pack, told):
    return [damage_now(pack)]


def life(pack, told):
    spare = 2 * pack.limit - damage_now(pack)
    if spare < 0:
        return [0, 0]
    return [1, spare]


def would(pack, told):
    reading = told[0]
    if reading > TOP_READING:
        return [WRONG]
    row = list(pack.row)
    gone = come(row, reading)
    harm_done = pack.harm_done + harm_of_all(pack.table, gone)
    return [damage_of(pack, row, harm_done), len(gone)]


CALLS = {
    0: start,
    1: read,
    2: reads,
    3: left,
    4: done,
    5: halves,
    6: harm,
    7: damage,
    8: life,
    9: would,
}

# For each call: how many whole numbers it has, then how many rows.
SHAPES = {
    0: (1, 2),
    1: (1, 0),
    2: (0, 1),
    3: (0, 0),
    4: (0, 0),
    5: (0, 0),
    6: (1, 0),
    7: (0, 0),
    8: (0, 0),
    9: (1, 0),
}


def take_told(line, shape):
    numbers = [line.take_number() for k in range(shape[0])]
    rows = [line.take_row() for k in range(shape[1])]
    return numbers + rows


def answer_call(pack, number, told):
    if number != START and not pack.started:
        return [NOT_STARTED]
    call = CALLS[number]
    return call(pack, told)


def answers(calls):
    """Answer each call of the list: how many numbers are answered, then these."""
    pack = Pack()
    line = Line(calls)
    given = []
    while line.has_more():
        number = line.take_number()
        told = take_told(line, SHAPES[number])
        given.extend(counted(answer_call(pack, number, told)))
    return given
