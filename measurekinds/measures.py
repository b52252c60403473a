"""Measure texts: the factors that stand in them, and the powers they come to."""

from measurekinds.limits import MOST_FACTORS
from measurekinds.signs import is_base_name, is_measure_variable


def measure_factors(text):
    # A list of (name, power) without the factors 1, or None if this is no measure text.
    # With a "." put before each "/", every piece but the first may begin with the "/" that turns it.
    pieces = text.replace("/", "./").split(".")
    if len(pieces) > MOST_FACTORS:
        return None
    factors = []
    for piece in pieces:
        found = piece_factors(piece)
        if found is None:
            return None
        factors.extend(found)
    return factors


def piece_factors(piece):
    if piece.startswith("/"):
        return turned(factor_of(piece[1:]))
    return factor_of(piece)


def turned(factors):
    if factors is None:
        return None
    return [(name, -power) for name, power in factors]


def factor_of(text):
    if text == "1":
        return []
    halves = text.partition("^")
    name = halves[0]
    power = power_of(halves[2]) if halves[1] == "^" else 1
    if power is None or not (is_base_name(name) or is_measure_variable(name)):
        return None
    return [(name, power)]


def power_of(text):
    digits = text[1:] if text.startswith("-") else text
    if not 1 <= len(digits) <= 3 or not digits.isdigit():
        return None
    return int(text)


def power_in(factors, name):
    return sum([factor[1] for factor in factors if factor[0] == name])


def names_in(measures):
    # In the order in which they first stand, whatever their power is.
    names = {}
    for factors in measures:
        for factor in factors:
            names[factor[0]] = True
    return list(names)
