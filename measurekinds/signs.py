"""Bytes as signs and back, and which runs of signs are names."""

from measurekinds.limits import MOST_NAME_SIGNS

SMALL_LETTERS = "abcdefghijklmnopqrstuvwxyz"
CAPITALS = "ABCDEFGHIJKLMNOPQRSTUVWXYZ"
DIGITS = "0123456789"
WORD_SIGNS = "abcdefghijklmnopqrstuvwxyz0123456789_"

# No kind text and no base name holds any other byte, so all others may share one sign.
OTHER = "?"
FIRST_SIGN = 32
SIGNS = " ??????'()??,-./0123456789????>??ABCDEFGHIJKLMNOPQRSTUVWXYZ[?]^_?abcdefghijklmnopqrstuvwxyz"


def sign_of(number):
    at = number - FIRST_SIGN
    return SIGNS[at] if 0 <= at < len(SIGNS) else OTHER


def text_of(numbers):
    return "".join([sign_of(number) for number in numbers])


def bytes_of(text):
    return [ord(sign) for sign in text]


def is_base_name(text):
    if not 1 <= len(text) <= MOST_NAME_SIGNS or text[0] not in SMALL_LETTERS:
        return False
    return all([sign in WORD_SIGNS for sign in text])


def is_numbered_letter(text, letters):
    if not 1 <= len(text) <= 3 or text[0] not in letters:
        return False
    return all([sign in DIGITS for sign in text[1:]])


def unused_names(start, letters, taken, count):
    # The letters alone come first, then those with a 1 behind them, then those with a 2, and so on.
    found = []
    number = 0
    while len(found) < count:
        end = "" if number == 0 else str(number)
        names = [f"{start}{letter}{end}" for letter in letters]
        found.extend([name for name in names if name not in taken])
        number += 1
    return found[:count]


def is_measure_variable(text):
    return is_numbered_letter(text, CAPITALS)


def is_kind_variable(text):
    return text.startswith("'") and is_numbered_letter(text[1:], SMALL_LETTERS)
