"""The refusals: each is answered by its number alone."""


class Refusal(Exception):
    def __init__(self, number):
        self.number = number


class TooMany(Refusal):
    def __init__(self):
        Refusal.__init__(self, -1)


class OutOfRange(Refusal):
    def __init__(self):
        Refusal.__init__(self, -2)


class WrongNumbers(Refusal):
    def __init__(self):
        Refusal.__init__(self, -3)


class OverLimit(Refusal):
    def __init__(self):
        Refusal.__init__(self, -5)


class CannotStand(Refusal):
    def __init__(self, place):
        Refusal.__init__(self, -100 - place)
