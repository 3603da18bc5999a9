"""Texts read as terms."""

from binderless.nodes import BOUND, FREE, abstraction_of, apply_row
from binderless.refusals import TooLong, WrongText
from binderless.signs import BACKSLASH, DOT, LEFT, MOST_NAME_BYTES, RIGHT, is_blank, is_letter, name_end

MOST_TEXT_BYTES = 4096
MOST_PARENTHESES = 100
MOST_BACKSLASHES = 100

# What must come next; behind an atom a term may be over or go on.
TERM = "term"
BINDER = "binder"
BINDERS_DOT = "dot"
ANYTHING = "anything"


class Builder:
    # A row is begun by the text itself, by a parenthesis or by an abstraction, and is made a term when it is over.
    # starts has the sign that began each row but the first.
    def __init__(self):
        self.wanted = TERM
        self.rows = [[]]
        self.starts = []
        self.binders = []
        self.parentheses = 0
        self.backslashes = 0

    def takes_atoms(self):
        return self.wanted == TERM or self.wanted == ANYTHING

    def takes_name(self):
        return self.wanted != BINDERS_DOT

    def take_name(self, name):
        if self.wanted == BINDER:
            self.binders.append(name)
            self.wanted = BINDERS_DOT
        else:
            self.take_atom((self.node_of(name),))

    def node_of(self, name):
        for between, binder in enumerate(reversed(self.binders)):
            if binder == name:
                return (BOUND, between)
        return (FREE, name)

    def take_atom(self, term):
        self.rows[-1].append(term)
        self.wanted = ANYTHING

    def takes_sign(self, sign):
        if sign == BACKSLASH:
            return self.takes_atoms() and self.backslashes < MOST_BACKSLASHES
        if sign == DOT:
            return self.wanted == BINDERS_DOT
        if sign == LEFT:
            return self.takes_atoms() and self.parentheses < MOST_PARENTHESES
        return sign == RIGHT and self.wanted == ANYTHING and self.parentheses > 0

    def take_sign(self, sign):
        if sign == BACKSLASH:
            self.backslashes += 1
            self.wanted = BINDER
        elif sign == DOT:
            self.begin_row(BACKSLASH)
        elif sign == LEFT:
            self.parentheses += 1
            self.begin_row(LEFT)
        else:
            self.close_parenthesis()

    def begin_row(self, start):
        self.starts.append(start)
        self.rows.append([])
        self.wanted = TERM

    def close_parenthesis(self):
        self.close_abstractions()
        self.parentheses -= 1
        self.starts.pop()
        self.take_atom(apply_row(self.rows.pop()))

    def close_abstractions(self):
        while self.starts and self.starts[-1] == BACKSLASH:
            self.starts.pop()
            self.binders.pop()
            self.take_atom(abstraction_of(apply_row(self.rows.pop())))

    def may_end(self):
        return self.wanted == ANYTHING and self.parentheses == 0

    def finished(self):
        self.close_abstractions()
        return apply_row(self.rows[0])


def read_name(builder, text, start):
    if not builder.takes_name():
        raise WrongText(start)
    end = name_end(text, start)
    if end - start > MOST_NAME_BYTES:
        raise WrongText(start + MOST_NAME_BYTES)
    builder.take_name(tuple(text[start:end]))
    return end


def read_sign(builder, text, place):
    if not builder.takes_sign(text[place]):
        raise WrongText(place)
    builder.take_sign(text[place])
    return place + 1


def read_term(text):
    if len(text) > MOST_TEXT_BYTES:
        raise TooLong()
    builder = Builder()
    place = 0
    while place < len(text):
        if is_blank(text[place]):
            place += 1
        elif is_letter(text[place]):
            place = read_name(builder, text, place)
        else:
            place = read_sign(builder, text, place)
    if not builder.may_end():
        raise WrongText(len(text))
    return builder.finished()
