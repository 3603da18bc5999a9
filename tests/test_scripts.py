"""Scripts of calls of all kinds in one list, beside the second telling of the program."""

import unittest

import binderless.terms
import helpers
from helpers import all_texts, ask, drop, nodes, read, text
from model import Model
from named_terms import source_of

CALLS = 200
IDENTITY = ("\\", "x", "x")
FIRST = ("\\", "x", ("\\", "y", "x"))
TWO = ("\\", "f", ("\\", "x", ("f", ("f", "x"))))
TWICE = ("\\", "x", ("x", "x"))
THRICE = ("\\", "x", (("x", "x"), "x"))
SPREAD = ("\\", "x", ("\\", "y", ("\\", "z", (("x", "z"), ("y", "z")))))


def wide_term(levels, leaf):
    return leaf if levels == 0 else (wide_term(levels - 1, leaf), wide_term(levels - 1, leaf))


def deep_term(levels, leaf):
    return leaf if levels == 0 else ("f", deep_term(levels - 1, leaf))


TERMS = (
    "x", "y", "x0", ("f", "x"), (("x", "y"), "x1"), IDENTITY, FIRST, TWO, TWICE, THRICE, SPREAD, (TWICE, TWICE),
    (THRICE, THRICE), (TWO, TWO), ((FIRST, "y"), (TWICE, TWICE)), ("\\", "y", (FIRST, "y")), ("\\", "x0", ("x", "x0")),
    (("\\", "x", ("\\", "y", ("x", "y"))), ("y", "x0")), wide_term(6, "x"), deep_term(70, "y"),
    ("\\", "y", (("\\", "x", ("\\", "z", ("x", ("y", "z")))), ("\\", "z", ("z", ("y", "x"))))),
)
WRONG_TEXTS = (("", [-1, 0]), ("x)", [-1, 1]), ("\\x.", [-1, 3]), ("f (x", [-1, 4]), (" " * 4097, [-6]))
NAMES = ("x", "y", "f", "x0", "x1", "z", "a" * 31)
WRONG_NAMES = ("", "1x", "_", "x y", "a" * 32)
KINDS = (
    "read", "read", "text", "nodes", "same", "apply", "apply", "abstract", "replace", "replace", "step", "step",
    "normal", "normal", "names", "drop", "drop", "drop",
)


class Chooser:
    """The same row of choices each time for one seed."""

    def __init__(self, seed):
        self.state = seed

    def below(self, count):
        self.state = (self.state * 6364136223846793005 + 1442695040888963407) % 2**64
        return (self.state >> 33) % count

    def one_of(self, row):
        return row[self.below(len(row))]

    def rarely(self):
        return self.below(12) == 0

    def number(self):
        return self.one_of((15, 16, 17, 2**32 - 1)) if self.rarely() else self.below(12)

    def name(self):
        return self.one_of(WRONG_NAMES if self.rarely() else NAMES)

    def most(self):
        return self.one_of((1001, 2**32 - 1) if self.rarely() else (0, 1, 2, 3, 30))

    def arguments(self, kind):
        if kind in ("same", "apply"):
            return [self.number(), self.number()]
        if kind == "abstract":
            return [self.number(), self.name()]
        if kind == "replace":
            return [self.number(), self.name(), self.number()]
        if kind == "normal":
            return [self.number(), self.most()]
        return [self.number()]


def next_call(chooser, model):
    """A call, and what is answered to it."""
    kind = chooser.one_of(KINDS)
    if kind == "read" and chooser.rarely():
        source, answer = chooser.one_of(WRONG_TEXTS)
        return read(source), answer
    if kind == "read":
        term = chooser.one_of(TERMS)
        return read(source_of(term)), model.read(term)
    arguments = chooser.arguments(kind)
    return getattr(helpers, kind)(*arguments), getattr(model, kind)(*arguments)


def script(seed, count=CALLS):
    """So many calls, and what is answered to each; fewer if they would be more numbers than can be handed in."""
    chooser = Chooser(seed)
    model = Model()
    calls = []
    answers = []
    length = 0
    while len(calls) < count:
        call, answer = next_call(chooser, model)
        length += len(call)
        if length > 30000:
            break
        calls.append(call)
        answers.append(answer)
    return calls, answers


class Scripts(unittest.TestCase):
    def test_calls_of_all_kinds(self):
        refusals = set()
        kinds = set()
        for seed in range(60):
            calls, wanted = script(seed)
            answers = ask(*calls)
            for place, answer in enumerate(answers):
                self.assertEqual(answer, wanted[place], (seed, place, calls[place]))
                refusals.add(min(answer[0], 0))
                kinds.add((calls[place][0], answer[0] == 0))
        self.assertEqual(refusals, {0, -1, -2, -3, -4, -5, -6})
        self.assertEqual(kinds, {(kind, fine) for kind in range(11) for fine in (True, False)})

    def test_200_calls_in_one_list(self):
        calls, wanted = script(3)
        self.assertEqual(len(calls), 200)
        self.assertEqual(len(ask(*calls)), 200)

    def test_the_list_handed_in_is_as_it_was(self):
        for seed in range(5):
            numbers = sum(script(seed)[0], [])
            before = list(numbers)
            binderless.terms.answers(numbers)
            self.assertEqual(numbers, before)

    def test_asking_twice_answers_the_same(self):
        for seed in range(5):
            numbers = sum(script(seed)[0], [])
            first = binderless.terms.answers(numbers)
            self.assertEqual(binderless.terms.answers(text(0)), [1, -4])
            self.assertEqual(binderless.terms.answers(numbers), first)

    def test_whole_numbers_are_never_true_or_false(self):
        for seed in range(5):
            answered = binderless.terms.answers(sum(script(seed)[0], []))
            self.assertEqual({type(number) for number in answered}, {int})

    def test_behind_each_refusal_what_is_kept_is_as_it_was(self):
        refused = 0
        for seed in range(3):
            calls, wanted = script(seed, 150)
            for place, answer in enumerate(wanted):
                if answer[0] < 0:
                    refused += 1
                    before = ask(*calls[:place], *all_texts())[place:]
                    self.assertEqual(ask(*calls[:place + 1], *all_texts())[place + 1:], before, (seed, place))
        self.assertGreater(refused, 50)

    def test_without_the_refused_calls_all_else_is_answered_alike(self):
        for seed in range(20):
            calls, wanted = script(seed)
            fine = [place for place, answer in enumerate(wanted) if answer[0] == 0]
            self.assertEqual(ask(*[calls[place] for place in fine]), [wanted[place] for place in fine], seed)

    def test_dropping_what_was_read_leaves_nothing(self):
        calls = [read("x"), drop(0), nodes(0)]
        self.assertEqual(ask(*calls * 60), [[0, 0], [0], [-4]] * 60)


if __name__ == "__main__":
    unittest.main()
