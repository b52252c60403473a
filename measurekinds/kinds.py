"""The calls on one object, and their answers."""

from measurekinds.faults import fault_of
from measurekinds.forms import normal_form
from measurekinds.freeing import show_free
from measurekinds.joining import join_kinds
from measurekinds.limits import MOST_BASES, MOST_BYTES, MOST_HELD
from measurekinds.matching import match_normal, order_normal, show_substitution
from measurekinds.meeting import apply_kinds, meet_kinds
from measurekinds.reading import read_kind, read_text
from measurekinds.refusals import BaseTwice, NoBaseName, Refusal, TooFar, TooManyBases, TooManyHeld
from measurekinds.shapes import variables_in
from measurekinds.showing import show_kind
from measurekinds.signs import bytes_of, is_base_name, text_of


def answer_base(bases, texts):
    name = text_of(texts[0])
    if not is_base_name(name):
        raise NoBaseName()
    if name in bases:
        raise BaseTwice()
    if len(bases) == MOST_BASES:
        raise TooManyBases()
    bases.append(name)
    return [0]


def answer_normal(bases, texts):
    kind = normal_form(read_kind(texts[0], bases))
    return with_text(0, show_kind(kind, bases))


def answer_size(bases, texts):
    kind = normal_form(read_kind(texts[0], bases))
    return [len(kind.shape), len(variables_in(kind.shape)), len(kind.rows)]


def answer_match(bases, texts):
    general = normal_form(read_kind(texts[0], bases))
    special = normal_form(read_kind(texts[1], bases))
    substitution = match_normal(general, special)
    if substitution is None:
        return [0]
    return with_text(1, show_substitution(substitution, general, special, bases))


def answer_meet(bases, texts):
    one = read_kind(texts[0], bases)
    other = read_kind(texts[1], bases)
    return with_text(0, show_kind(meet_kinds(one, other), bases))


def answer_join(bases, texts):
    one = read_kind(texts[0], bases)
    other = read_kind(texts[1], bases)
    return with_text(0, show_kind(join_kinds(one, other), bases))


def answer_order(bases, texts):
    one = normal_form(read_kind(texts[0], bases))
    other = normal_form(read_kind(texts[1], bases))
    return [order_normal(one, other)]


def answer_apply(bases, texts):
    function = read_kind(texts[0], bases)
    argument = read_kind(texts[1], bases)
    return with_text(0, show_kind(apply_kinds(function, argument), bases))


def answer_free(bases, texts):
    held_texts = split_rows(texts[1])
    if len(held_texts) > MOST_HELD:
        raise TooManyHeld()
    reading = read_text(texts[0], bases)
    held = [read_text(text, bases) for text in held_texts]
    return with_text(0, show_free(reading, held, bases))


def answer_fault(bases, texts):
    return fault_of(texts[0], bases)


def split_rows(numbers):
    # Rows one behind another, each with how many numbers it has before it.
    rows = []
    at = 0
    while at < len(numbers):
        end = at + 1 + numbers[at]
        rows.append(numbers[at + 1:end])
        at = end
    return rows


def with_text(number, text):
    if len(text) > MOST_BYTES:
        raise TooFar()
    return [number] + bytes_of(text)


# By the number of the call: how many texts it has (the held ones of free are one row), and what answers it.
CALLS = ((1, answer_base), (1, answer_normal), (1, answer_size), (2, answer_match), (2, answer_meet), (2, answer_join),
         (2, answer_order), (2, answer_apply), (2, answer_free), (1, answer_fault))


def answer(bases, number, texts):
    try:
        return CALLS[number][1](bases, texts)
    except Refusal as refusal:
        return [refusal.number]


def split_calls(calls):
    # Each call as its number and its texts.
    found = []
    at = 0
    while at < len(calls):
        number = calls[at]
        at += 1
        texts = []
        for turn in range(CALLS[number][0]):
            end = at + 1 + calls[at]
            texts.append(calls[at + 1:end])
            at = end
        found.append((number, texts))
    return found


def answers(calls):
    bases = []
    given = []
    for number, texts in split_calls(calls):
        numbers = answer(bases, number, texts)
        given.append(len(numbers))
        given.extend(numbers)
    return given
