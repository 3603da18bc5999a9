"""Every small text and every small term, beside a second and slower telling of the grammar and of sameness."""

import itertools
import re
import unittest

from helpers import abstract, ask, last, nodes, read, same, text
from named_terms import are_same, expected_text, source_of, terms_of

ENDS = [middle + ")" * count for middle in ("", "x", ".x", "x.x") for count in range(6)]


def is_term(source):
    """By striking out innermost parentheses; p stands for what stood in them, and can be no binder."""
    if re.search(r"[^x1\\.() ]|(?<!x)(?<!1)1", source):
        return False
    shape = re.sub(r"x[x1]*", "n", source).replace(" ", "")
    inside = r"([np]*\\n\.)*[np]+"
    before = None
    while before != shape:
        before = shape
        shape = re.sub(r"\(" + inside + r"\)", "p", shape)
    return re.fullmatch(inside, shape) is not None


def can_go_on(source):
    return any(is_term(source + end) for end in ENDS)


def expected_place(source):
    return max(length for length in range(len(source) + 1) if can_go_on(source[:length]))


class EverySmallText(unittest.TestCase):
    def test_a_text_is_one_term_or_has_one_first_wrong_place(self):
        terms = 0
        for length in range(6):
            for signs in itertools.product("x1\\.() ", repeat=length):
                source = "".join(signs)
                if is_term(source):
                    terms += 1
                    self.assertEqual(last(read(source)), [0, 0], source)
                else:
                    self.assertEqual(last(read(source)), [-1, expected_place(source)], source)
        self.assertGreater(terms, 200)


class EverySmallTerm(unittest.TestCase):
    names = ("y", "x0", "x1")

    def test_nodes_and_text_and_reading_back(self):
        for count in range(1, 6):
            for term in terms_of(count, self.names):
                source = source_of(term)
                wanted = expected_text(term)
                calls = [read(source), nodes(0), text(0), read(wanted), same(0, 1)]
                self.assertEqual(ask(*calls)[1:], [[0, count], [0] + list(wanted.encode()), [0, 1], [0, 1]], source)

    def test_one_text_just_if_the_same(self):
        terms = [term for count in range(1, 5) for term in terms_of(count, self.names)]
        for left, right in itertools.combinations_with_replacement(terms, 2):
            wanted = are_same(left, right)
            answers = ask(read(source_of(left)), read(source_of(right)), same(0, 1), text(0), text(1))
            self.assertEqual(answers[2], [0, int(wanted)], (left, right))
            self.assertEqual(answers[3] == answers[4], wanted, (left, right))

    def test_abstract(self):
        for count in range(1, 5):
            for term in terms_of(count, self.names):
                for name in self.names:
                    wanted = expected_text(("\\", name, term))
                    answers = ask(read(source_of(term)), abstract(0, name), text(1), text(0))
                    self.assertEqual(answers[1], [0, 1])
                    self.assertEqual(answers[2], [0] + list(wanted.encode()), (name, term))
                    self.assertEqual(answers[3], [0] + list(expected_text(term).encode()))


if __name__ == "__main__":
    unittest.main()
