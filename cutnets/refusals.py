"""The refusals of the calls, each with the number that is answered."""


class Refusal(Exception):
    def __init__(self, code):
        self.code = code


class NoText(Refusal):
    def __init__(self):
        Refusal.__init__(self, -1)


class OutOfRange(Refusal):
    def __init__(self):
        Refusal.__init__(self, -2)


class WrongLinks(Refusal):
    def __init__(self):
        Refusal.__init__(self, -3)


class NotThere(Refusal):
    def __init__(self):
        Refusal.__init__(self, -4)


class TooManyLeaves(Refusal):
    def __init__(self):
        Refusal.__init__(self, -5)


class OutOfBounds(Refusal):
    def __init__(self):
        Refusal.__init__(self, -6)


class NotDual(Refusal):
    def __init__(self):
        Refusal.__init__(self, -8)


class Stuck(Refusal):
    def __init__(self):
        Refusal.__init__(self, -9)


class NeverEnds(Refusal):
    def __init__(self):
        Refusal.__init__(self, -9)
