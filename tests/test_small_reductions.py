"""Every small term replaced and reduced, beside the second telling with names."""

import itertools
import unittest

from helpers import abstract, apply, ask, names, normal, read, replace, same, step, text
from named_terms import (
    all_steps, are_same, expected_text, names_in_order, normal_step, normal_steps, put, source_of, terms_of)

NAMES = ("y", "x0")


def small_terms(most_nodes):
    return [term for count in range(1, most_nodes + 1) for term in terms_of(count, NAMES)]


def in_bytes(term):
    return [0] + list(expected_text(term).encode())


class EverySmallTerm(unittest.TestCase):
    def test_a_step(self):
        reduced = 0
        for term in small_terms(7):
            further = normal_step(term)
            answers = ask(read(source_of(term)), step(0), text(1), text(0))
            if further is None:
                self.assertEqual(answers[1:3], [[-5], [-4]], term)
            else:
                reduced += 1
                self.assertEqual(answers[1:3], [[0, 1], in_bytes(further)], term)
            self.assertEqual(answers[3], in_bytes(term))
        self.assertGreater(reduced, 500)

    def test_so_many_steps(self):
        for term in small_terms(7):
            if normal_step(term) is not None:
                for most in (1, 2, 5):
                    further, made = normal_steps(term, most)
                    answers = ask(read(source_of(term)), normal(0, most), text(1))
                    self.assertEqual(answers[1:], [[0, 1, made], in_bytes(further)], (most, term))

    def test_replace(self):
        values = small_terms(4)
        for term in small_terms(4):
            for value in values:
                for name in NAMES:
                    wanted = put(term, name, value)
                    answers = ask(read(source_of(term)), read(source_of(value)), replace(0, name, 1), text(2))
                    self.assertEqual(answers[2:], [[0, 2], in_bytes(wanted)], (term, name, value))

    def test_names(self):
        for term in small_terms(6):
            wanted = [0]
            for name in names_in_order(term):
                wanted += [len(name)] + list(name.encode())
            self.assertEqual(ask(read(source_of(term)), names(0))[1], wanted, term)


class Promises(unittest.TestCase):
    def test_what_is_written_is_read_back(self):
        for term in small_terms(6):
            further = normal_step(term)
            if further is not None:
                calls = [read(source_of(term)), step(0), read(expected_text(further)), same(1, 2)]
                self.assertEqual(ask(*calls)[3], [0, 1], term)

    def test_an_abstraction_applied_comes_in_one_step_to_what_is_replaced(self):
        for term, value in itertools.product(small_terms(4), small_terms(3)):
            for name in NAMES:
                calls = [read(source_of(term)), read(source_of(value)), abstract(0, name), apply(2, 1), step(3)]
                answers = ask(*calls, replace(0, name, 1), same(4, 5))
                self.assertEqual(answers[4:], [[0, 4], [0, 5], [0, 1]], (term, name, value))

    def test_none_is_left_just_where_nothing_can_be_reduced(self):
        for term in small_terms(6):
            answer = ask(read(source_of(term)), step(0))[1]
            self.assertEqual(answer == [-5], all_steps(term) == [], term)

    def test_wherever_reductions_end_normal_order_ends_too(self):
        several = 0
        for term in small_terms(8):
            ways = all_steps(term)
            if len(ways) < 2:
                continue
            several += 1
            ends = self.ends_of(term)
            for end in ends:
                self.assertTrue(are_same(end, ends[0]), term)
            answers = ask(read(source_of(term)), normal(0, 1000), text(1), step(1))
            if ends:
                self.assertEqual(answers[2:], [in_bytes(ends[0]), [-5]], term)
        self.assertGreater(several, 100)

    def ends_of(self, term):
        """The normal terms that reductions in any order come to within some steps."""
        ends = []
        seen = {expected_text(term)}
        waiting = [(term, 0)]
        while waiting:
            part, made = waiting.pop()
            further = all_steps(part)
            if not further:
                ends.append(part)
            for each in further:
                if made < 5 and expected_text(each) not in seen:
                    seen.add(expected_text(each))
                    waiting.append((each, made + 1))
        return ends


if __name__ == "__main__":
    unittest.main()
