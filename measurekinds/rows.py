"""Rows of whole numbers, and the staircase they are brought into."""


def home_of(row):
    # The place of the first number that is not 0; behind the last place if all are 0.
    for at, number in enumerate(row):
        if number != 0:
            return at
    return len(row)


def take_off(row, times, other):
    if times == 0:
        return row
    return [number - times * taken for number, taken in zip(row, other)]


def column(rows, at):
    return [row[at] for row in rows]


def picked(row, places):
    return [row[place] for place in places]


def bring_down(row, stairs):
    # How many times each stair is taken off, in order, and what then is left of the row.
    left = row
    taken = []
    for stair in stairs:
        home = home_of(stair)
        times = left[home] // stair[home]
        left = take_off(left, times, stair)
        taken.append(times)
    return (taken, left)


def staircase(rows):
    # One row after another: the stairs are brought down each time, so that their numbers stay small.
    stairs = []
    for row in rows:
        stairs = lowered(with_row(stairs, row))
    return stairs


def stairs_behind(stairs, count):
    # Of all rows that the stairs span, those that begin with so many zeros, without these.
    return [stair[count:] for stair in stairs if home_of(stair) >= count]


def with_row(stairs, row):
    # Stairs that span what the given ones and the row span, with homes going to the right.
    grown = []
    rest = row
    for stair in stairs:
        if home_of(rest) < home_of(stair):
            grown.append(rest)
            rest = stair
        elif home_of(rest) == home_of(stair):
            two = cleared(stair, rest, home_of(stair))
            grown.append(two[0])
            rest = two[1]
        else:
            grown.append(stair)
    if home_of(rest) < len(rest):
        grown.append(rest)
    return grown


def cleared(one, other, at):
    # Two rows that span what the given two span, the second with 0 at this place.
    upper = one
    lower = other
    while lower[at] != 0:
        left = take_off(upper, upper[at] // lower[at], lower)
        upper = lower
        lower = left
    return (upper, lower)


def lowered(stairs):
    # From the last one up: what is brought down by stairs that are low already stays small.
    low = []
    for stair in reversed(stairs):
        upright = stair if stair[home_of(stair)] > 0 else [-number for number in stair]
        low.insert(0, bring_down(upright, low)[1])
    return low
