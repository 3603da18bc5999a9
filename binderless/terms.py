"""Calls on terms, handed in and answered as whole numbers."""

from binderless.nodes import apply_row, bind_name, free_names, replace_name
from binderless.reader import read_term
from binderless.refusals import NoName, Refusal
from binderless.shelf import Shelf
from binderless.signs import is_name
from binderless.steps import make_steps, one_step
from binderless.writer import write_term


class Tape:
    def __init__(self, numbers):
        self.numbers = numbers
        self.place = 0

    def is_over(self):
        return self.place == len(self.numbers)

    def take_number(self):
        number = self.numbers[self.place]
        self.place += 1
        return number

    def take_row(self):
        start = self.place + 1
        self.place = start + self.numbers[self.place]
        return self.numbers[start:self.place]


def checked_name(row):
    if not is_name(row):
        raise NoName()
    return tuple(row)


# Each takes all of its numbers from the tape first: behind a refusal the tape must stand at the next call.


def answer_read(shelf, tape):
    text = tape.take_row()
    return [shelf.keep(read_term(text))]


def answer_text(shelf, tape):
    number = tape.take_number()
    return write_term(shelf.term(number))


def answer_nodes(shelf, tape):
    number = tape.take_number()
    return [len(shelf.term(number))]


def answer_same(shelf, tape):
    left = tape.take_number()
    right = tape.take_number()
    return [1 if shelf.term(left) == shelf.term(right) else 0]


def answer_apply(shelf, tape):
    function = tape.take_number()
    argument = tape.take_number()
    return [shelf.keep(apply_row([shelf.term(function), shelf.term(argument)]))]


def answer_abstract(shelf, tape):
    number = tape.take_number()
    row = tape.take_row()
    body = shelf.term(number)
    return [shelf.keep(bind_name(body, checked_name(row)))]


def answer_replace(shelf, tape):
    number = tape.take_number()
    put_in = tape.take_number()
    row = tape.take_row()
    term = shelf.term(number)
    part = shelf.term(put_in)
    return [shelf.keep(replace_name(term, checked_name(row), part))]


def answer_step(shelf, tape):
    number = tape.take_number()
    return [shelf.keep(one_step(shelf.term(number)))]


def answer_normal(shelf, tape):
    number = tape.take_number()
    most = tape.take_number()
    reached = make_steps(shelf.term(number), most)
    return [shelf.keep(reached[0]), reached[1]]


def answer_names(shelf, tape):
    number = tape.take_number()
    answer = []
    for name in free_names(shelf.term(number)):
        answer.append(len(name))
        answer.extend(name)
    return answer


def answer_drop(shelf, tape):
    number = tape.take_number()
    shelf.drop(number)
    return []


CALLS = (
    answer_read, answer_text, answer_nodes, answer_same, answer_apply, answer_abstract, answer_replace, answer_step,
    answer_normal, answer_names, answer_drop,
)


def answer_call(shelf, tape):
    call = CALLS[tape.take_number()]
    try:
        return [0] + call(shelf, tape)
    except Refusal as refusal:
        return refusal.numbers


def answers(calls):
    shelf = Shelf()
    tape = Tape(calls)
    answered = []
    while not tape.is_over():
        answer = answer_call(shelf, tape)
        answered.append(len(answer))
        answered.extend(answer)
    return answered
