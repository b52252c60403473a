"""How general a kind is while other kinds are held fast."""

from measurekinds.limits import MOST_MEASURE_VARIABLES
from measurekinds.refusals import TooLarge
from measurekinds.rows import bring_down, staircase, stairs_behind
from measurekinds.shapes import variables_in, with_names
from measurekinds.showing import show_parts
from measurekinds.signs import CAPITALS, SMALL_LETTERS, unused_names


def show_free(reading, held, bases):
    # The readings are of the kind and of the held ones.
    variables = measure_variables(held + [reading])
    if len(variables) > MOST_MEASURE_VARIABLES:
        raise TooLarge()
    stairs = free_stairs(reading, held, variables)
    rows = [powers_of(name, reading) for name in variables] + reading.kind.base_rows
    names = unused_names("", CAPITALS, variables, len(stairs)) + variables + bases
    powers = stairs + [bring_down(row, stairs)[1] for row in rows]
    return show_parts(free_shape(reading.kind.shape, [one.kind.shape for one in held]), names, powers)


def measure_variables(readings):
    names = {}
    for reading in readings:
        for name in reading.variables:
            names[name] = True
    return list(names)


def powers_of(name, reading):
    if name in reading.variables:
        return reading.kind.rows[reading.variables.index(name)]
    return [0] * reading.kind.shape.count("num")


def free_stairs(reading, held, variables):
    # With the places of the held kinds ahead of those of the kind: a sum of these rows that is 0 in all of
    # the held places is what a freedom makes of the kind.
    rows = []
    for name in variables:
        row = []
        for one in held + [reading]:
            row.extend(powers_of(name, one))
        rows.append(row)
    return stairs_behind(staircase(rows), sum([one.kind.shape.count("num") for one in held]))


def free_shape(shape, held_shapes):
    held = []
    for held_shape in held_shapes:
        held.extend(variables_in(held_shape))
    free = [name for name in variables_in(shape) if name not in held]
    names = unused_names("'", SMALL_LETTERS, held + free, len(free))
    return with_names(shape, free, names)
