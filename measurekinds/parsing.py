"""From a kind text to its shape and the factors in its places."""

from measurekinds.measures import measure_factors
from measurekinds.refusals import NoKindText
from measurekinds.shapes import is_variable_part
from measurekinds.tokens import tokens_of

# The tokens behind which an item must stand; the empty one is the text's beginning.
AHEAD_OF_ITEM = ("", "(", ",", "->", "list")


class Parse:
    def __init__(self):
        self.shape = []
        self.measures = []
        # For each num where its measure begins in the text (where there is none, the num itself).
        self.measure_starts = []
        # The token that was taken last, and where in the text it began.
        self.last = ""
        self.place = 0
        # Where in the shape the item began that is being read: an arrow behind it goes there.
        self.item_start = 0
        # For each bracket not yet closed: the item_start of the item that it is (or that the list is
        # whose item it is), where the kind in it began, and whether a comma stood in it.
        self.brackets = []

    def take(self, place, token):
        self.place = place
        if self.last in AHEAD_OF_ITEM:
            self.take_item(token)
        else:
            self.take_behind_item(token)
        self.last = token

    def take_item(self, token):
        if token == "(":
            self.brackets.append((self.item_start, len(self.shape), False))
            self.item_start = len(self.shape)
        elif token in ("truth", "num", "list") or is_variable_part(token):
            self.shape.append(token)
            if token == "num":
                self.measures.append([])
                self.measure_starts.append(self.place)
        else:
            raise NoKindText(self.place)

    def take_behind_item(self, token):
        if token == "->":
            self.shape.insert(self.item_start, "arrow")
            self.item_start = len(self.shape)
        elif token == ",":
            self.take_comma()
        elif token == ")":
            self.item_start = self.innermost_bracket()[0]
            self.brackets.pop()
        elif token.startswith("[") and self.last == "num":
            self.measures[-1] = measure_factors(token[1:-1])
            self.measure_starts[-1] = self.place
        else:
            raise NoKindText(self.place)

    def take_comma(self):
        bracket = self.innermost_bracket()
        if bracket[2]:
            raise NoKindText(self.place)
        self.shape.insert(bracket[1], "pair")
        self.item_start = len(self.shape)
        self.brackets[-1] = (bracket[0], bracket[1], True)

    def innermost_bracket(self):
        if len(self.brackets) == 0:
            raise NoKindText(self.place)
        return self.brackets[-1]

    def finish(self, length):
        self.place = length
        if self.last in AHEAD_OF_ITEM or len(self.brackets) > 0:
            raise NoKindText(self.place)


def parsed(text):
    parse = Parse()
    for place, token in tokens_of(text):
        parse.take(place, token)
    parse.finish(len(text))
    return parse
