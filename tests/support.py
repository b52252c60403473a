"""What the tests share: calls told in texts, and their answers told in texts."""

from measurekinds.kinds import answers

BASE, NORMAL, SIZE, MATCH, MEET, JOIN, ORDER, APPLY, FREE, FAULT = range(10)


def as_bytes(text):
    return [ord(sign) for sign in text] if isinstance(text, str) else list(text)


def call(number, *texts):
    numbers = [number]
    for text in texts:
        row = as_bytes(text)
        numbers.append(len(row))
        numbers.extend(row)
    return numbers


def line(*calls):
    return [number for one in calls for number in one]


def split_answers(numbers):
    found = []
    at = 0
    while at < len(numbers):
        end = at + 1 + numbers[at]
        if end > len(numbers) or numbers[at] < 1:
            raise AssertionError(f"a count that can't be: {numbers[at]} at {at}")
        found.append(numbers[at + 1:end])
        at = end
    return found


def ask_all(*calls):
    return split_answers(answers(line(*calls)))


def ask(bases, number, *texts):
    """The last call's answer, behind a base call for each of the bases."""
    given = ask_all(*[call(BASE, base) for base in bases], call(number, *texts))
    if given[:-1] != [[0]] * len(bases):
        raise AssertionError(f"a base was refused: {given[:-1]}")
    return given[-1]


def told(answer, number):
    """A refusal's number, or the text behind this number."""
    if answer[0] < 0:
        if len(answer) != 1:
            raise AssertionError(f"a refusal with more behind it: {answer}")
        return answer[0]
    if answer[0] != number:
        raise AssertionError(f"{number} should stand first: {answer}")
    return "".join(chr(byte) for byte in answer[1:])


def normal(text, bases=("m", "s")):
    return told(ask(bases, NORMAL, text), 0)


def size(text, bases=("m", "s")):
    return ask(bases, SIZE, text)


def match(general, special, bases=("m", "s")):
    """None for 0 alone, a refusal's number, or the substitution's text."""
    answer = ask(bases, MATCH, general, special)
    return None if answer == [0] else told(answer, 1)


def meet(one, other, bases=("m", "s")):
    return told(ask(bases, MEET, one, other), 0)


def join(one, other, bases=("m", "s")):
    return told(ask(bases, JOIN, one, other), 0)


def order(one, other, bases=("m", "s")):
    answer = ask(bases, ORDER, one, other)
    if len(answer) != 1:
        raise AssertionError(f"more than one number: {answer}")
    return answer[0]


def apply(function, argument, bases=("m", "s")):
    return told(ask(bases, APPLY, function, argument), 0)


def held_row(texts):
    """The texts as one list: each as how many bytes it has, and then they."""
    return [number for text in texts for number in [len(as_bytes(text))] + as_bytes(text)]


def free(kind, *held, bases=("m", "s")):
    return told(ask(bases, FREE, kind, held_row(held)), 0)


def fault(text, bases=("m", "s")):
    return ask(bases, FAULT, text)
