"""Readings in a row, the swings between them, and how much these harm."""

MOST_ROWS = 8
TOP_SIZE = 1000
TOP_HARM = 1000


def lies_between(before, last, new):
    return min(before, new) <= last <= max(before, new)


def put(row, reading):
    if len(row) >= 2 and lies_between(row[-2], row[-1], reading):
        row[-1] = reading
    elif len(row) != 1 or row[0] != reading:
        row.append(reading)


def middle_is_inner(row):
    if len(row) < 4:
        return False
    middle = abs(row[-3] - row[-2])
    return middle <= abs(row[-4] - row[-3]) and middle <= abs(row[-2] - row[-1])


def take_out_inner(row):
    gone = []
    while middle_is_inner(row):
        last = row.pop()
        third = row.pop()
        second = row.pop()
        row.append(last)
        gone.append(abs(second - third))
    return gone


def come(row, reading):
    """Let the reading come to the row; give back how far each swing went that is done by it."""
    put(row, reading)
    return take_out_inner(row)


def half_swings(row):
    return [abs(row[k + 1] - row[k]) for k in range(len(row) - 1)]


def rises(sizes):
    return all([sizes[k] < sizes[k + 1] for k in range(len(sizes) - 1)])


def never_falls(harms):
    return all([harms[k] <= harms[k + 1] for k in range(len(harms) - 1)])


def is_table(froms, harms):
    if len(froms) < 1 or len(froms) > MOST_ROWS or len(froms) != len(harms):
        return False
    # Neither list falls, so its last number is its greatest.
    return rises(froms) and froms[-1] <= TOP_SIZE and never_falls(harms) and harms[-1] <= TOP_HARM


def make_table(froms, harms):
    return list(zip(froms, harms))


def harm_of(table, size):
    found = 0
    for reached_from, harm in table:
        if reached_from <= size:
            found = harm
    return found


def harm_of_all(table, sizes):
    return sum([harm_of(table, size) for size in sizes])
