"""The refusals of the calls: each is an error of its own and bears the number that is answered."""


class Refusal(Exception):
    def __init__(self, number):
        self.number = number


class NoBaseName(Refusal):
    def __init__(self):
        Refusal.__init__(self, -1)


class BaseTwice(Refusal):
    def __init__(self):
        Refusal.__init__(self, -2)


class TooManyBases(Refusal):
    def __init__(self):
        Refusal.__init__(self, -3)


class NoKindText(Refusal):
    # place: where in the text the first token begins that can't stand there, or where the text ends.
    def __init__(self, place):
        Refusal.__init__(self, -4)
        self.place = place


class UnknownBase(Refusal):
    # place: where in the text the first measure begins in which there is such a base.
    def __init__(self, place):
        Refusal.__init__(self, -5)
        self.place = place


class TooLarge(Refusal):
    def __init__(self):
        Refusal.__init__(self, -6)


class TooFar(Refusal):
    def __init__(self):
        Refusal.__init__(self, -7)


class NoCommonShape(Refusal):
    def __init__(self):
        Refusal.__init__(self, -10)


class NoCommonMeasure(Refusal):
    def __init__(self):
        Refusal.__init__(self, -11)


class TooManyHeld(Refusal):
    def __init__(self):
        Refusal.__init__(self, -13)
