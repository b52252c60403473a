"""The tokens of a kind text, each as where it begins and its own text."""

from measurekinds.limits import MOST_OPENINGS
from measurekinds.measures import measure_factors
from measurekinds.signs import WORD_SIGNS, is_kind_variable

# No good token is or begins with this.
BAD = "?"
BLANK = " "


def tokens_of(text):
    tokens = []
    openings = 0
    at = 0
    while at < len(text):
        found = token_at(text, at)
        token = BAD if found == "(" and openings == MOST_OPENINGS else found
        if token == "(":
            openings += 1
        if token != BLANK:
            tokens.append((at, token))
        at += len(found)
    return tokens


def token_at(text, at):
    sign = text[at]
    if sign in "(),":
        return sign
    if sign == BLANK:
        return BLANK
    if text[at:at + 2] == "->":
        return "->"
    if sign in WORD_SIGNS:
        return run_at(text, at)
    if sign == "'":
        return kind_variable_at(text, at)
    if sign == "[":
        return measure_at(text, at)
    return BAD


def run_at(text, start):
    end = start
    while end < len(text) and text[end] in WORD_SIGNS:
        end += 1
    return text[start:end]


def kind_variable_at(text, at):
    token = text[at] + run_at(text, at + 1)
    return token if is_kind_variable(token) else BAD


def measure_at(text, at):
    end = text.find("]", at)
    if end < 0 or measure_factors(text[at + 1:end]) is None:
        return BAD
    return text[at:end + 1]
