import time
import unittest

from helpers import abstract, apply, ask, grown, last, nodes, normal, read, same, shown, step, text

OMEGA = "(\\w.w w) (\\w.w w)"
TWO = "(\\f.\\x.f (f x))"
MOST = 1000


def reached(source, most):
    """The text of what is come to, and in how many steps."""
    calls = [read(source), normal(0, most)]
    number, kept = shown(*calls)
    answer = last(*calls)
    if number != 1 or len(answer) != 3:
        raise AssertionError(f"answered {answer}")
    return kept, answer[2]


class HowManySteps(unittest.TestCase):
    # Of this term there are 3.
    source = "(\\x.\\y.\\z.z y x) a b c"

    def test_none(self):
        self.assertEqual(reached(self.source, 0), ("(\\x0.\\x1.\\x2.x2 x1 x0) a b c", 0))
        self.assertEqual(last(read(self.source), normal(0, 0), same(0, 1)), [0, 1])

    def test_fewer_than_there_are(self):
        self.assertEqual(reached(self.source, 1), ("(\\x0.\\x1.x1 x0 a) b c", 1))
        self.assertEqual(reached(self.source, 2), ("(\\x0.x0 b a) c", 2))

    def test_just_as_many(self):
        self.assertEqual(reached(self.source, 3), ("c b a", 3))

    def test_more(self):
        for most in (4, 5, 999, 1000):
            self.assertEqual(reached(self.source, most), ("c b a", 3))

    def test_a_normal_term(self):
        for source, kept in (("x", "x"), ("\\y.y", "\\x0.x0"), ("f (\\x.x) y", "f (\\x0.x0) y")):
            for most in (0, 1, 1000):
                self.assertEqual(reached(source, most), (kept, 0))
                self.assertEqual(last(read(source), normal(0, most), same(0, 1)), [0, 1])

    def test_as_single_steps(self):
        source = f"{TWO} {TWO} (\\y.f y) a"
        steps = [step(number) for number in range(9)]
        for most in range(10):
            kept, made = reached(source, most)
            self.assertEqual(made, most)
            self.assertEqual(shown(read(source), *steps[:most]), (most, kept))

    def test_in_two_goes(self):
        source = f"{TWO} {TWO} {TWO} f a"
        kept, made = reached(source, MOST)
        for first in (1, made // 2, made - 1, made):
            calls = [read(source), normal(0, first), normal(1, MOST)]
            self.assertEqual(ask(*calls)[1:], [[0, 1, first], [0, 2, made - first]])
            self.assertEqual(shown(*calls), (2, kept))


class NormalForms(unittest.TestCase):
    def test_church_numerals(self):
        self.assertEqual(reached(f"{TWO} {TWO} f a", MOST)[0], "f (f (f (f a)))")
        self.assertEqual(reached(f"{TWO} {TWO}", MOST)[0], "\\x0.\\x1.x0 (x0 (x0 (x0 x1)))")
        self.assertEqual(reached(f"{TWO} {TWO} {TWO} f a", MOST)[0], "f (" * 15 + "f a" + ")" * 15)

    def test_in_bodies_and_arguments(self):
        self.assertEqual(reached("\\a.(\\x.x) a", MOST), ("\\x0.x0", 1))
        self.assertEqual(reached("f ((\\x.x) a) (\\y.(\\x.x) y)", MOST), ("f a (\\x0.x0)", 2))

    def test_a_term_that_reaches_it_in_normal_order_only(self):
        self.assertEqual(reached(f"(\\x.y) ({OMEGA})", MOST), ("y", 1))
        self.assertEqual(reached(f"(\\a.\\b.a) y ({OMEGA})", MOST), ("y", 2))
        self.assertEqual(reached(f"(\\a.\\b.b) ({OMEGA}) y", MOST), ("y", 2))
        self.assertEqual(reached("(\\x.(\\a.\\b.a) y (x x)) (\\x.(\\a.\\b.a) y (x x))", MOST), ("y", 3))

    def test_no_binder_catches_a_name_on_the_way(self):
        self.assertEqual(reached("(\\x.\\y.x y) (\\z.y z)", MOST), ("\\x0.y x0", 2))
        self.assertEqual(reached("\\y.(\\s.\\z.s (s z)) (\\x.\\y.x y)", MOST)[0], "\\x0.\\x1.\\x2.x1 x2")
        self.assertEqual(reached("(\\f.\\y.f (f y)) (\\x.x y)", MOST), ("\\x0.x0 y y", 3))


class NoNormalForm(unittest.TestCase):
    def test_just_as_many_steps_as_told(self):
        for most in (0, 1, 2, 17, 999, 1000):
            self.assertEqual(reached(OMEGA, most), ("(\\x0.x0 x0) (\\x0.x0 x0)", most))

    def test_a_term_that_comes_round(self):
        source = "(\\p.\\q.q p q) a (\\p.\\q.q p q)"
        for most in (1, 2, 3, 1000):
            self.assertEqual(last(read(source), normal(0, most))[2], most)

    def test_a_redex_to_the_right_is_never_come_to(self):
        self.assertEqual(reached(f"f ({OMEGA}) ((\\x.x) a)", 10),
                         ("f ((\\x0.x0 x0) (\\x0.x0 x0)) ((\\x0.x0) a)", 10))


class TooLarge(unittest.TestCase):
    # Of 13 nodes, 7 more with each step: 71 steps come to 510 nodes; the depth is 76 then.
    wide = "(\\x.x x x) (\\x.x x x)"
    # Of depth 5, one more with each step: 95 steps come to 100; there are 203 nodes then.
    deep = "(\\x.f (x x)) (\\x.f (x x))"

    def test_it_stops_ahead_of_too_many_nodes(self):
        for most in (71, 72, 1000):
            answers = ask(read(self.wide), normal(0, most), nodes(1), step(1))
            self.assertEqual(answers[1:], [[0, 1, 71], [0, 510], [-2]])
        self.assertEqual(last(read(self.wide), normal(0, 70)), [0, 1, 70])

    def test_512_nodes_are_not_too_many(self):
        for around, nodes_then in (("\\z.", 511), ("\\z.\\z.", 512)):
            answers = ask(read(around + self.wide), normal(0, 1000), nodes(1))
            self.assertEqual(answers[1:], [[0, 1, 71], [0, nodes_then]])
        answers = ask(read("\\z.\\z.\\z." + self.wide), normal(0, 1000), nodes(1))
        self.assertEqual(answers[1:], [[0, 1, 70], [0, 506]])

    def test_it_stops_ahead_of_too_great_a_depth(self):
        for most in (95, 96, 1000):
            answers = ask(read(self.deep), normal(0, most), nodes(1), step(1))
            self.assertEqual(answers[1:], [[0, 1, 95], [0, 203], [-2]])
        self.assertEqual(last(read(self.deep), normal(0, 94)), [0, 1, 94])

    def test_ahead_of_the_first_step(self):
        for source in (f"(\\y.y y y) ({grown(128)})", "(\\y.f (g (h y))) (" + "a " * 98 + ")"):
            answers = ask(read(source), normal(0, 1000), same(0, 1), step(0))
            self.assertEqual(answers[1:], [[0, 1, 0], [0, 1], [-2]])

    def test_no_other_redex_is_taken_in_its_place(self):
        source = f"f ((\\y.y y y) ({grown(100)})) ((\\x.x) a)"
        self.assertEqual(ask(read(source), normal(0, 1000), same(0, 1))[1:], [[0, 1, 0], [0, 1]])

    def test_a_term_that_would_be_small_again_further_on(self):
        source = f"(\\k.(\\y.k y y y) ({grown(120)})) (\\a.\\b.\\c.d)"
        self.assertEqual(ask(read(source), normal(0, 1000), step(1))[1:], [[0, 1, 1], [-2]])


class Most(unittest.TestCase):
    def test_above_1000(self):
        for most in (1001, 1002, 2**31, 2**32 - 1):
            self.assertEqual(last(read(OMEGA), normal(0, most)), [-6])
            self.assertEqual(last(read("x"), normal(0, most)), [-6])

    def test_1000(self):
        self.assertEqual(last(read(OMEGA), normal(0, 1000)), [0, 1, 1000])
        self.assertEqual(last(read("x"), normal(0, 1000)), [0, 1, 0])


class Kept(unittest.TestCase):
    def test_what_it_was_stays(self):
        calls = [read("(\\x.\\y.x y) y a"), normal(0, 5), text(0), text(1)]
        self.assertEqual(ask(*calls)[1:], [[0, 1, 2], [0] + list(b"(\\x0.\\x1.x0 x1) y a"), [0] + list(b"y a")])

    def test_of_a_term_that_was_made(self):
        calls = [read("f x"), abstract(0, "f"), read("\\a.a a"), apply(1, 2), normal(3, 9)]
        self.assertEqual(shown(*calls), (4, "x x"))

    def test_what_is_written_is_read_back(self):
        for source in (f"{TWO} {TWO} x0", f"\\a.{TWO} (\\p.p a x1)", "(\\x.x x \\y.x) (\\y.y x0)", TooLarge.deep):
            kept = reached(source, 50)[0]
            self.assertEqual(last(read(source), normal(0, 50), read(kept), same(1, 2)), [0, 1], source)


class LargeTerms(unittest.TestCase):
    def check(self, source, least_nodes):
        self.assertGreaterEqual(last(read(source), nodes(0))[1], least_nodes)
        begun = time.process_time()
        self.assertEqual(last(read(source), normal(0, 1000)), [0, 1, 1000])
        # A hundred times what it takes; a walk through all parts at each node would be over it.
        self.assertLess(time.process_time() - begun, 15)

    def test_1000_steps_in_a_large_term(self):
        self.check(f"f ({grown(120)}) ({OMEGA}) ({grown(125)})", 500)

    def test_1000_steps_of_a_large_redex(self):
        part = f"(\\x.(\\y.x x) ({grown(80, 'z')}))"
        self.check(f"{part} {part}", 330)

    def test_1000_steps_with_a_large_argument_under_binders(self):
        part = f"(\\p.\\q.(\\n.q p q) ({grown(60, 'p')}))"
        self.check(f"\\v.{part} v {part}", 250)


if __name__ == "__main__":
    unittest.main()
