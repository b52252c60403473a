"""Reading a kind text, with its refusals in their order."""

from measurekinds.forms import Kind
from measurekinds.limits import LARGEST_POWER, MOST_BYTES, MOST_MEASURE_VARIABLES, MOST_PARTS
from measurekinds.measures import names_in, power_in
from measurekinds.parsing import parsed
from measurekinds.refusals import NoKindText, TooFar, TooLarge, UnknownBase
from measurekinds.signs import is_measure_variable, text_of
from measurekinds.tokens import tokens_of


def read_kind(numbers, bases):
    if len(numbers) > MOST_BYTES:
        raise NoKindText()
    parse = parsed(tokens_of(text_of(numbers)))
    names = names_in(parse.measures)
    variables = [name for name in names if is_measure_variable(name)]
    if any([name not in bases and name not in variables for name in names]):
        raise UnknownBase()
    if len(parse.shape) > MOST_PARTS or len(variables) > MOST_MEASURE_VARIABLES:
        raise TooLarge()
    rows = [power_row(parse.measures, name) for name in variables]
    return Kind(parse.shape, rows, [power_row(parse.measures, base) for base in bases])


def power_row(measures, name):
    row = [power_in(factors, name) for factors in measures]
    if any([abs(power) > LARGEST_POWER for power in row]):
        raise TooFar()
    return row
