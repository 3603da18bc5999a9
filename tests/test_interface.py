import unittest

import binderless.terms
from helpers import abstract, apply, drop, names, nodes, normal, read, replace, same, step, text


class Interface(unittest.TestCase):
    def test_several_calls_in_one_list(self):
        calls = read("f x") + nodes(0) + text(0) + same(0, 1) + abstract(0, "x") + same(0, 1) + text(1) + read("(")
        self.assertEqual(binderless.terms.answers(calls), (
            [2, 0, 0] + [2, 0, 3] + [4, 0] + list(b"f x") + [1, -4] + [2, 0, 1] + [2, 0, 0]
            + [9, 0] + list(b"\\x0.f x0") + [2, -1, 1]))

    def test_several_reductions_in_one_list(self):
        calls = (read("(\\x.x y) z") + step(0) + text(1) + normal(0, 9) + names(0) + replace(1, "z", 0) + drop(1)
                 + step(2) + normal(2, 1001) + drop(1) + read("\\x.x") + names(1))
        self.assertEqual(binderless.terms.answers(calls), (
            [2, 0, 0] + [2, 0, 1] + [4, 0] + list(b"z y") + [3, 0, 2, 1] + [5, 0, 1, 121, 1, 122] + [2, 0, 3] + [1, 0]
            + [1, -5] + [1, -6] + [1, -4] + [2, 0, 1] + [1, 0]))

    def test_how_calls_are_handed_in(self):
        # Of replace both numbers stand ahead of the name.
        calls = [0, 3, 102, 32, 120, 0, 1, 121, 6, 0, 1, 1, 120, 1, 2, 8, 2, 7, 9, 2, 10, 2, 7, 0]
        self.assertEqual(binderless.terms.answers(calls), (
            [2, 0, 0] + [2, 0, 1] + [2, 0, 2] + [4, 0, 102, 32, 121] + [3, 0, 3, 0] + [5, 0, 1, 102, 1, 121] + [1, 0]
            + [1, -5]))

    def test_how_many_numbers_stand_ahead_of_each_answer(self):
        for calls, answered in (
            (read("x"), [2, 0, 0]),
            (read(""), [2, -1, 0]),
            (read("x" * 4097), [1, -6]),
            (read("x " * 101), [1, -2]),
            (text(0), [1, -4]),
            (nodes(4294967295), [1, -4]),
            (same(0, 0), [1, -4]),
            (apply(0, 0), [1, -4]),
            (abstract(0, ""), [1, -4]),
            (read("x") + abstract(0, ""), [2, 0, 0, 1, -1]),
            (read("x") + apply(0, 0), [2, 0, 0, 2, 0, 1]),
            (read("x") + same(0, 0), [2, 0, 0, 2, 0, 1]),
            (replace(0, "", 0), [1, -4]),
            (step(0), [1, -4]),
            (normal(4294967295, 4294967295), [1, -4]),
            (names(0), [1, -4]),
            (drop(0), [1, -4]),
            (read("x") + replace(0, "", 0), [2, 0, 0, 1, -1]),
            (read("x") + replace(0, "x", 0), [2, 0, 0, 2, 0, 1]),
            (read("x") + step(0), [2, 0, 0, 1, -5]),
            (read("x") + normal(0, 1000), [2, 0, 0, 3, 0, 1, 0]),
            (read("x") + normal(0, 1001), [2, 0, 0, 1, -6]),
            (read("x") + names(0), [2, 0, 0, 3, 0, 1, 120]),
            (read("x") + drop(0), [2, 0, 0, 1, 0]),
        ):
            self.assertEqual(binderless.terms.answers(calls), answered)

    def test_behind_a_refusal_the_next_call_is_found(self):
        for refused in (read("+ 0 1 2"), read("x" * 4200), abstract(9, "x y"), abstract(0, "1" * 4200), apply(9, 9),
                        replace(9, "x y", 0), replace(0, "1" * 4200, 0), replace(0, "", 9), step(0), step(9),
                        normal(9, 9), normal(0, 1001), names(9), drop(9)):
            answered = binderless.terms.answers(read("x") + refused + nodes(0))
            self.assertEqual(answered[-3:], [2, 0, 1])

    def test_the_most_calls(self):
        calls = read("x") + nodes(0) * 199
        self.assertEqual(binderless.terms.answers(calls), [2, 0, 0] + [2, 0, 1] * 199)

    def test_long_texts_one_behind_another(self):
        calls = read("x " * 2048) * 7
        self.assertEqual(binderless.terms.answers(calls), [1, -2] * 7)

    def test_the_list_handed_in_is_as_it_was(self):
        calls = read("\\x.x y") + abstract(0, "y") + apply(0, 1) + text(2) + read(")") + same(0, 1)
        before = list(calls)
        binderless.terms.answers(calls)
        self.assertEqual(calls, before)

    def test_asking_twice_answers_the_same(self):
        calls = read("\\x.x y") + abstract(0, "y") + apply(0, 1) + text(2)
        first = binderless.terms.answers(calls)
        self.assertEqual(binderless.terms.answers(calls), first)
        self.assertEqual(binderless.terms.answers(text(0)), [1, -4])
        self.assertEqual(binderless.terms.answers(list(calls)), first)

    def test_what_was_answered_can_be_changed_without_harm(self):
        calls = read(")") + text(0)
        binderless.terms.answers(calls).append(7)
        self.assertEqual(binderless.terms.answers(calls), [2, -1, 0, 1, -4])

    def test_whole_numbers_are_never_true_or_false(self):
        calls = read("x") + read("y") + same(0, 1) + same(0, 0) + nodes(0) + text(0) + abstract(0, "")
        answered = binderless.terms.answers(calls)
        self.assertIs(type(answered), list)
        self.assertEqual({type(number) for number in answered}, {int})


if __name__ == "__main__":
    unittest.main()
