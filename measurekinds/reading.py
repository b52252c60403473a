"""Reading a kind text, with its refusals in their order."""

from measurekinds.forms import Kind
from measurekinds.limits import LARGEST_POWER, MOST_BYTES, MOST_MEASURE_VARIABLES, MOST_PARTS
from measurekinds.measures import names_in, power_in
from measurekinds.parsing import parsed
from measurekinds.refusals import NoKindText, TooFar, TooLarge, UnknownBase
from measurekinds.signs import is_base_name, is_measure_variable, text_of


class Reading:
    # A kind, and what its measure variables are called in the text: one name for each of its rows, in the
    # order in which they first stand there.
    def __init__(self, kind, variables):
        self.kind = kind
        self.variables = variables


def read_text(numbers, bases):
    if len(numbers) > MOST_BYTES:
        raise NoKindText(MOST_BYTES)
    parse = parsed(text_of(numbers))
    refuse_unknown_bases(parse, bases)
    variables = [name for name in names_in(parse.measures) if is_measure_variable(name)]
    if len(parse.shape) > MOST_PARTS or len(variables) > MOST_MEASURE_VARIABLES:
        raise TooLarge()
    rows = [power_row(parse.measures, name) for name in variables]
    base_rows = [power_row(parse.measures, base) for base in bases]
    return Reading(Kind(parse.shape, rows, base_rows), variables)


def read_kind(numbers, bases):
    return read_text(numbers, bases).kind


def refuse_unknown_bases(parse, bases):
    for start, factors in zip(parse.measure_starts, parse.measures):
        if any([is_base_name(name) and name not in bases for name in names_in([factors])]):
            raise UnknownBase(start)


def power_row(measures, name):
    row = [power_in(factors, name) for factors in measures]
    if any([abs(power) > LARGEST_POWER for power in row]):
        raise TooFar()
    return row
