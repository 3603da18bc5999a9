import unittest

from helpers import (
    abstract, all_texts, apply, ask, drop, grown, last, names, nodes, normal, read, replace, same, step, text)

WIDE = grown(256)
FULL = [read(f"a{number}") for number in range(14)] + [read(WIDE), read("x " * 100)]
WIDE_NUMBER = 14
DEEP_NUMBER = 15
# A redex, one whose step is too large by nodes, one by depth, a normal term and a wide one; all other numbers normal.
REDEXES = [read("(\\x.x) y"), read(f"(\\x.x x x) ({grown(128)})"), read("(\\x.f (g x)) (" + "x " * 99 + ")")]
FULL_OF_REDEXES = REDEXES + [read("x"), read(WIDE)] + [read(f"a{number}") for number in range(11)]
REDEX, WIDER, DEEPER, NORMAL, WIDE_TERM = range(5)
NOT_KEPT = (16, 17, 255, 2**31, 2**32 - 16, 2**32 - 1)


class Numbers(unittest.TestCase):
    def test_the_least_number_that_is_not_taken(self):
        calls = [read("x"), apply(0, 0), abstract(0, "x"), read("y")]
        self.assertEqual(ask(*calls), [[0, 0], [0, 1], [0, 2], [0, 3]])

    def test_a_refused_term_takes_no_number(self):
        calls = [read("x"), read(")"), apply(0, 1), abstract(0, ""), read("x " * 101), read("y"), text(1)]
        self.assertEqual(ask(*calls)[-2:], [[0, 1], [0, 121]])

    def test_calls_that_keep_nothing_take_no_number(self):
        calls = [read("x"), text(0), nodes(0), same(0, 0), read("y")]
        self.assertEqual(last(*calls), [0, 1])

    def test_16_terms_are_kept(self):
        answers = ask(*FULL, *all_texts())
        self.assertEqual(answers[:16], [[0, number] for number in range(16)])
        self.assertEqual([answer[0] for answer in answers[16:]], [0] * 16 + [-4])
        self.assertEqual(answers[16 + 13], [0] + list(b"a13"))

    def test_a_17th_is_refused(self):
        for call in (read("x"), apply(0, 1), abstract(0, "x"), read("a0"), replace(0, "a0", 1), normal(0, 0)):
            self.assertEqual(last(*FULL, call), [-3])
        for call in (step(REDEX), normal(REDEX, 0), normal(REDEX, 1), normal(WIDER, 1), replace(REDEX, "y", NORMAL)):
            self.assertEqual(last(*FULL_OF_REDEXES, call), [-3])

    def test_calls_that_keep_nothing_are_answered_with_16_kept(self):
        self.assertEqual(last(*FULL, text(0)), [0] + list(b"a0"))
        self.assertEqual(last(*FULL, nodes(WIDE_NUMBER)), [0, 511])
        self.assertEqual(last(*FULL, same(0, 0)), [0, 1])
        self.assertEqual(last(*FULL, names(0)), [0, 2] + list(b"a0"))
        self.assertEqual(last(*FULL, drop(0)), [0])

    def test_a_number_that_is_not_kept(self):
        for number in NOT_KEPT + (1, 15):
            for call in (text(number), nodes(number), same(number, 0), same(0, number), same(number, number),
                         apply(number, 0), apply(0, number), apply(number, number), abstract(number, "x"),
                         replace(number, "x", 0), replace(0, "x", number), replace(number, "x", number),
                         step(number), normal(number, 1), names(number), drop(number)):
                self.assertEqual(last(read("x"), call), [-4], call)

    def test_nothing_is_kept_at_the_beginning(self):
        for call in (text(0), nodes(0), same(0, 0), apply(0, 0), abstract(0, "x"), replace(0, "x", 0), step(0),
                     normal(0, 0), names(0), drop(0)):
            self.assertEqual(ask(call), [[-4]], call)


class Order(unittest.TestCase):
    def check(self, call, answer):
        """With 16 terms kept, so that -3 holds too."""
        self.assertEqual(last(*FULL, call), answer, call[:8])

    def test_too_long_is_all_that_is_looked_at(self):
        for source in ("+" * 4097, "x" + " " * 4096, "x " * 2049, "(" * 4097, "x" * 4097, " " * 4097):
            self.assertEqual(last(read(source)), [-6])
            self.check(read(source), [-6])

    def test_no_terms_text_before_too_large(self):
        self.assertEqual(last(read("x " * 101 + ")")), [-1, 202])
        self.assertEqual(last(read("(" + WIDE + " x x")), [-1, len(WIDE) + 5])
        self.check(read("x " * 101 + ")"), [-1, 202])

    def test_no_terms_text_before_16_kept(self):
        self.check(read(""), [-1, 0])
        self.check(read("x +"), [-1, 2])

    def test_too_large_before_16_kept(self):
        self.check(read("x " * 101), [-2])
        self.check(read(grown(257)), [-2])
        self.check(apply(WIDE_NUMBER, 0), [-2])
        self.check(apply(0, DEEP_NUMBER), [-2])
        self.check(abstract(DEEP_NUMBER, "x"), [-2])

    def test_not_kept_before_no_name(self):
        self.assertEqual(last(abstract(0, "")), [-4])
        self.assertEqual(last(abstract(2**32 - 1, "1")), [-4])
        self.check(abstract(16, ""), [-4])

    def test_not_kept_before_16_kept(self):
        for number in NOT_KEPT:
            self.check(apply(number, 0), [-4])
            self.check(apply(0, number), [-4])
            self.check(apply(number, DEEP_NUMBER), [-4])
            self.check(apply(DEEP_NUMBER, number), [-4])
            self.check(abstract(number, "x"), [-4])

    def test_no_name_before_too_large(self):
        self.assertEqual(last(read("x " * 100), abstract(0, "")), [-1])
        self.check(abstract(DEEP_NUMBER, "x y"), [-1])

    def test_no_name_before_16_kept(self):
        self.check(abstract(0, ""), [-1])
        self.check(abstract(0, "a" * 32), [-1])


class OrderOfReductions(unittest.TestCase):
    def check(self, call, answer):
        """With 16 terms kept, so that -3 holds too."""
        self.assertEqual(last(*FULL_OF_REDEXES, call), answer, call[:8])

    def test_not_kept_before_no_name(self):
        for number in NOT_KEPT:
            self.check(replace(number, "", REDEX), [-4])
            self.check(replace(REDEX, "1", number), [-4])
            self.check(replace(number, "", number), [-4])
        self.assertEqual(last(read("x"), replace(0, "", 1)), [-4])
        self.assertEqual(last(read("x"), replace(1, "", 0)), [-4])

    def test_no_name_before_too_large(self):
        self.check(replace(WIDE_TERM, "", WIDE_TERM), [-1])
        self.check(replace(WIDE_TERM, "x ", WIDE_TERM), [-1])
        self.check(replace(WIDE_TERM, "x" * 32, WIDE_TERM), [-1])

    def test_no_name_before_16_kept(self):
        self.check(replace(NORMAL, "", NORMAL), [-1])
        self.check(replace(NORMAL, "x" * 4200, NORMAL), [-1])

    def test_too_large_before_16_kept(self):
        self.check(replace(WIDE_TERM, "x", WIDE_TERM), [-2])
        self.check(replace(DEEPER, "g", DEEPER), [-2])
        self.check(step(WIDER), [-2])
        self.check(step(DEEPER), [-2])

    def test_normal_before_16_kept(self):
        self.check(step(NORMAL), [-5])
        self.check(step(WIDE_TERM), [-5])

    def test_not_kept_before_most_above_1000(self):
        for number in NOT_KEPT:
            self.check(normal(number, 1001), [-4])
            self.check(normal(number, 2**32 - 1), [-4])
        self.assertEqual(last(normal(0, 1001)), [-4])

    def test_most_above_1000_before_16_kept(self):
        for number in (REDEX, WIDER, NORMAL):
            self.check(normal(number, 1001), [-6])
            self.check(normal(number, 2**32 - 1), [-6])

    def test_of_normal_too_large_is_no_refusal(self):
        self.assertEqual(last(*REDEXES, normal(WIDER, 1000)), [0, 3, 0])
        self.assertEqual(last(*REDEXES, normal(DEEPER, 1000)), [0, 3, 0])
        self.check(normal(WIDER, 1000), [-3])


class NothingChanges(unittest.TestCase):
    def check(self, before, refused):
        kept = ask(*before, *all_texts())[len(before):]
        answers = ask(*before, refused, *all_texts())
        self.assertLess(answers[len(before)][0], 0)
        self.assertEqual(answers[len(before) + 1:], kept)

    def test_behind_a_refusal_what_is_kept_is_as_it_was(self):
        before = [read("\\x.x y"), read(WIDE), read("x " * 100)]
        for refused in (read("x)"), read(""), read("x" * 4097), read("x " * 101), text(3), nodes(16), same(0, 3),
                        same(3, 0), apply(0, 3), apply(3, 0), apply(1, 0), apply(2, 0), abstract(3, "x"),
                        abstract(0, ""), abstract(0, "y "), abstract(2, "x")):
            self.check(before, refused)

    def test_behind_a_refused_reduction(self):
        before = FULL_OF_REDEXES[:5]
        for refused in (replace(5, "x", 0), replace(0, "x", 5), replace(0, "", 1), replace(4, "x", 4),
                        replace(2, "g", 2), step(5), step(NORMAL), step(WIDER), step(DEEPER), normal(5, 1),
                        normal(0, 1001), normal(5, 1001), names(5), drop(5), drop(16), drop(2**32 - 1)):
            self.check(before, refused)

    def test_behind_a_refused_reduction_with_16_kept(self):
        for refused in (replace(0, "y", 1), replace(0, "", 1), replace(4, "x", 4), step(REDEX), step(NORMAL),
                        step(WIDER), normal(REDEX, 1), normal(REDEX, 1001), normal(NORMAL, 0), drop(16), names(16)):
            self.check(FULL_OF_REDEXES, refused)

    def test_with_16_kept(self):
        for refused in (read("x"), read("+"), read("x " * 101), apply(0, 1), apply(0, 16), apply(0, DEEP_NUMBER),
                        abstract(0, "a0"), abstract(0, ""), abstract(16, "x"), text(16)):
            self.check(FULL, refused)

    def test_the_next_term_gets_the_number_that_the_refused_one_did_not(self):
        before = [read("x")]
        for refused in (read(")"), read("x " * 101), read(" " * 4097), apply(0, 1), abstract(0, ""), step(0),
                        replace(0, "", 0), normal(0, 1001), drop(1)):
            self.assertEqual(last(*before, refused, read("y")), [0, 1])


if __name__ == "__main__":
    unittest.main()
