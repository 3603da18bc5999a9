"""The terms that are kept, by number."""

from binderless.nodes import is_too_large
from binderless.refusals import AllTaken, NotKept, TooLarge

MOST_KEPT = 16


class Shelf:
    def __init__(self):
        self.kept = {}

    def term(self, number):
        if number not in self.kept:
            raise NotKept()
        return self.kept[number]

    def keep(self, term):
        if is_too_large(term):
            raise TooLarge()
        number = self.least_free()
        self.kept[number] = term
        return number

    def drop(self, number):
        if number not in self.kept:
            raise NotKept()
        self.kept.pop(number)

    def least_free(self):
        for number in range(MOST_KEPT):
            if number not in self.kept:
                return number
        raise AllTaken()
