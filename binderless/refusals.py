"""The refusals, each with the numbers that are answered for it."""


class Refusal(Exception):
    def __init__(self, numbers):
        Exception.__init__(self)
        self.numbers = numbers


class WrongText(Refusal):
    def __init__(self, place):
        Refusal.__init__(self, [-1, place])


class NoName(Refusal):
    def __init__(self):
        Refusal.__init__(self, [-1])


class TooLarge(Refusal):
    def __init__(self):
        Refusal.__init__(self, [-2])


class AllTaken(Refusal):
    def __init__(self):
        Refusal.__init__(self, [-3])


class NotKept(Refusal):
    def __init__(self):
        Refusal.__init__(self, [-4])


class AlreadyNormal(Refusal):
    def __init__(self):
        Refusal.__init__(self, [-5])


class TooLong(Refusal):
    def __init__(self):
        Refusal.__init__(self, [-6])


class TooManySteps(Refusal):
    def __init__(self):
        Refusal.__init__(self, [-6])
