"""What is wrong with a kind text, and where."""

from measurekinds.reading import read_kind
from measurekinds.refusals import NoKindText, TooFar, TooLarge, UnknownBase


def fault_of(numbers, bases):
    # The fault's kind and its place: faults are told in the order in which reading refuses them.
    try:
        read_kind(numbers, bases)
    except NoKindText as refusal:
        return [1, refusal.place]
    except UnknownBase as refusal:
        return [2, refusal.place]
    except TooLarge:
        return [3, 0]
    except TooFar:
        return [4, 0]
    return [0, 0]
