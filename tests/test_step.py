import unittest

from helpers import abstract, apply, ask, binders, grown, last, nodes, read, replace, same, shown, step, text

OMEGA = "(\\w.w w) (\\w.w w)"


def stepped(source):
    """The text of the term one step on."""
    number, kept = shown(read(source), step(0))
    if number != 1:
        raise AssertionError(f"kept under {number}")
    return kept


class WhichRedex(unittest.TestCase):
    def test_the_whole_term(self):
        self.assertEqual(stepped("(\\x.x) y"), "y")
        self.assertEqual(stepped("(\\x.f x) y"), "f y")

    def test_side_by_side(self):
        self.assertEqual(stepped("f ((\\x.x) a) ((\\x.x) b)"), "f a ((\\x0.x0) b)")
        self.assertEqual(stepped("f a ((\\x.x) b)"), "f a b")
        self.assertEqual(stepped("(\\x.x) a ((\\x.x) b)"), "a ((\\x0.x0) b)")

    def test_one_in_the_argument_of_the_other(self):
        self.assertEqual(stepped("(\\x.f x) ((\\y.y) a)"), "f ((\\x0.x0) a)")
        self.assertEqual(stepped("(\\x.a) ((\\y.y) b)"), "a")

    def test_one_in_the_body_of_the_other(self):
        self.assertEqual(stepped("(\\x.(\\y.y) x) a"), "(\\x0.x0) a")
        self.assertEqual(stepped("(\\x.\\z.(\\y.y) z x) a"), "\\x0.(\\x1.x1) x0 a")

    def test_in_a_function(self):
        self.assertEqual(stepped("(\\x.\\y.x) a b"), "(\\x0.a) b")
        self.assertEqual(stepped("(\\x.x) f a b c"), "f a b c")
        self.assertEqual(stepped("f ((\\x.x) a) b"), "f a b")

    def test_a_redex_in_the_function_is_left_of_one_in_the_argument(self):
        self.assertEqual(stepped("((\\x.x) f) ((\\x.x) a)"), "f ((\\x0.x0) a)")
        self.assertEqual(stepped("f (\\z.(\\x.x) z) ((\\x.x) a)"), "f (\\x0.x0) ((\\x0.x0) a)")

    def test_in_an_argument(self):
        self.assertEqual(stepped("f ((\\x.x) a)"), "f a")
        self.assertEqual(stepped("f (g (h ((\\x.x x) a)))"), "f (g (h (a a)))")

    def test_in_a_body(self):
        self.assertEqual(stepped("\\z.(\\x.x) z"), "\\x0.x0")
        self.assertEqual(stepped("\\z.f (\\y.(\\x.x y) z)"), "\\x0.f (\\x1.x0 x1)")
        self.assertEqual(stepped("f (\\z.z ((\\x.x) a)) ((\\x.x) b)"), "f (\\x0.x0 a) ((\\x0.x0) b)")

    def test_an_abstraction_that_is_an_argument_is_no_redex(self):
        self.assertEqual(stepped("f (\\x.x) ((\\y.y) a)"), "f (\\x0.x0) a")
        self.assertEqual(last(read("f (\\x.x) a"), step(0)), [-5])

    def test_no_other_redex_is_reduced_nor_the_new_one(self):
        self.assertEqual(stepped("(\\x.x a) (\\y.y)"), "(\\x0.x0) a")
        self.assertEqual(stepped("(\\x.x) (\\y.y) a"), "(\\x0.x0) a")

    def test_a_step_to_the_same_term(self):
        self.assertEqual(ask(read(OMEGA), step(0), same(0, 1))[1:], [[0, 1], [0, 1]])


class TheArgument(unittest.TestCase):
    def test_used_never(self):
        self.assertEqual(stepped("(\\x.y) (a b)"), "y")
        self.assertEqual(stepped("(\\x.\\y.y) a"), "\\x0.x0")
        self.assertEqual(stepped(f"(\\x.y) ({OMEGA})"), "y")

    def test_used_once(self):
        self.assertEqual(stepped("(\\x.f x a) (g b)"), "f (g b) a")

    def test_used_several_times(self):
        self.assertEqual(stepped("(\\x.x x (f x)) (a b)"), "a b (a b) (f (a b))")

    def test_used_under_binders(self):
        self.assertEqual(stepped("(\\x.\\y.\\z.x y z) (a b)"), "\\x0.\\x1.a b x0 x1")
        self.assertEqual(stepped("(\\x.x \\y.x \\z.x y z) (\\p.p q)"),
                         "(\\x0.x0 q) (\\x0.(\\x1.x1 q) (\\x1.(\\x2.x2 q) x0 x1))")

    def test_what_another_binder_of_that_name_binds_is_left(self):
        self.assertEqual(stepped("(\\x.x (\\x.x) x) a"), "a (\\x0.x0) a")


class NoBinderCatches(unittest.TestCase):
    def test_a_free_name_of_the_argument(self):
        self.assertEqual(stepped("(\\x.\\y.x y) y"), "\\x0.y x0")
        self.assertEqual(stepped("(\\x.\\y.\\z.x y z) (z y)"), "\\x0.\\x1.z y x0 x1")
        self.assertEqual(stepped("(\\x.\\y.x y) x"), "\\x0.x x0")

    def test_a_name_that_binders_are_written_with(self):
        self.assertEqual(stepped("(\\x.\\y.x y) x0"), "\\x1.x0 x1")
        self.assertEqual(stepped("(\\x.\\y.\\z.x y z) (x1 x0)"), "\\x2.\\x3.x1 x0 x2 x3")

    def test_names_bound_outside_of_the_redex(self):
        # In the body, in the argument, in both; beside the redex.
        self.assertEqual(stepped("\\a.\\b.(\\x.x a b) c"), "\\x0.\\x1.c x0 x1")
        self.assertEqual(stepped("\\a.\\b.(\\x.x c) (a b)"), "\\x0.\\x1.x0 x1 c")
        self.assertEqual(stepped("\\a.\\b.(\\x.b x a) (a b)"), "\\x0.\\x1.x1 (x0 x1) x0")
        self.assertEqual(stepped("\\a.\\b.a ((\\x.x) c) b"), "\\x0.\\x1.x0 c x1")

    def test_the_outside_is_bound_as_before_however_deep_the_argument_goes(self):
        self.assertEqual(stepped("\\a.(\\x.\\y.x) a"), "\\x0.\\x1.x0")
        self.assertEqual(stepped("\\a.\\b.(\\x.x \\y.x \\z.x y z) (a b)"),
                         "\\x0.\\x1.x0 x1 (\\x2.x0 x1 (\\x3.x0 x1 x2 x3))")

    def test_names_bound_outside_that_stand_under_binders_in_the_body(self):
        self.assertEqual(stepped("\\a.(\\x.\\y.a y x) c"), "\\x0.\\x1.x0 x1 c")
        self.assertEqual(stepped("\\a.\\b.(\\x.\\y.\\z.a b x y z) (b a)"),
                         "\\x0.\\x1.\\x2.\\x3.x0 x1 (x1 x0) x2 x3")

    def test_names_bound_within_the_body(self):
        self.assertEqual(stepped("(\\x.\\y.(\\z.z y x) y) c"), "\\x0.(\\x1.x1 x0 c) x0")

    def test_names_bound_within_the_argument(self):
        self.assertEqual(stepped("(\\x.\\y.x y) (\\p.\\q.p q)"), "\\x0.(\\x1.\\x2.x1 x2) x0")
        self.assertEqual(stepped("\\a.(\\x.\\y.x y) (\\p.p a (\\q.q p a))"),
                         "\\x0.\\x1.(\\x2.x2 x0 (\\x3.x3 x2 x0)) x1")


class Normal(unittest.TestCase):
    def test_a_normal_term(self):
        for source in ("x", "f x y", "\\x.x", "\\x.x x", "f (\\x.x) (\\y.y)", "x \\y.y \\z.z", "\\x.x ((y) \\z.z)"):
            self.assertEqual(last(read(source), step(0)), [-5], source)

    def test_until_it_is_normal(self):
        calls = [read("(\\x.\\y.y x) a b"), step(0), step(1), step(2)]
        self.assertEqual(ask(*calls), [[0, 0], [0, 1], [0, 2], [-5]])
        self.assertEqual(shown(*calls[:3]), (2, "b a"))


class Kept(unittest.TestCase):
    def test_what_it_was_stays(self):
        calls = [read("(\\x.\\y.x y) y"), step(0), text(0), step(0), same(1, 2)]
        self.assertEqual(ask(*calls)[2:], [[0] + list(b"(\\x0.\\x1.x0 x1) y"), [0, 2], [0, 1]])

    def test_of_a_term_that_was_made(self):
        calls = [read("f x"), abstract(0, "f"), read("\\a.a a"), apply(1, 2), step(3), step(4)]
        self.assertEqual(shown(*calls[:5]), (4, "(\\x0.x0 x0) x"))
        self.assertEqual(shown(*calls), (5, "x x"))

    def test_what_is_written_is_read_back(self):
        for source in ("(\\x.\\y.x y) x0", "\\a.(\\x.\\y.x y) (\\p.p a x1)", "(\\x.x x \\y.x) (\\y.y x0)"):
            written_again = stepped(source)
            self.assertEqual(last(read(source), step(0), read(written_again), same(1, 2)), [0, 1], source)


class TooLarge(unittest.TestCase):
    def test_nodes_at_the_edge(self):
        # The argument has 255 nodes, so two of them and an application have 511.
        value = grown(128)
        for source, answer in ((f"(\\y.y y) ({value})", [0, 511]), (f"\\z.(\\y.y y) ({value})", [0, 512]),
                               (f"\\z.\\z.(\\y.y y) ({value})", [-4]), (f"(\\y.y y y) ({value})", [-4])):
            answers = ask(read(source), step(0), nodes(1))
            self.assertEqual(answers[2], answer)
            self.assertEqual(answers[1], [0, 1] if answer[0] == 0 else [-2])

    def test_very_many_nodes(self):
        source = f"(\\y.{grown(120, 'y')}) ({grown(120)})"
        self.assertEqual(last(read(source), step(0)), [-2])

    def test_depth_at_the_edge(self):
        row = "a " * 98
        self.assertEqual(last(read(f"(\\y.f (g y)) ({row})"), step(0)), [0, 1])
        self.assertEqual(last(read(f"(\\y.f (g (h y))) ({row})"), step(0)), [-2])
        body = binders(97).replace("x", "z")
        self.assertEqual(last(read(f"(\\y.{body}y) (a b c)"), step(0)), [0, 1])
        self.assertEqual(last(read(f"(\\y.{body}y) (a b c d)"), step(0)), [-2])

    def test_the_depth_around_the_redex_counts(self):
        self.assertEqual(last(read("f (" * 50 + "(\\y.y a) (" + "b " * 49 + ")" * 51), step(0)), [0, 1])
        self.assertEqual(last(read("f (" * 50 + "(\\y.y a c) (" + "b " * 49 + ")" * 51), step(0)), [-2])

    def test_a_step_to_a_smaller_term(self):
        self.assertEqual(last(read(f"(\\y.a) ({grown(254)})"), step(0)), [0, 1])
        self.assertEqual(last(read("(\\y.a) (" + "b " * 99 + ")"), step(0), nodes(1)), [0, 1])


class PromiseTwo(unittest.TestCase):
    def test_an_abstraction_applied_comes_in_one_step_to_what_it_was_made_of_with_u_put_for_x(self):
        for source in ("x", "y", "x x", "\\y.x y", "\\x.x", "(\\x.x) x", "\\a.\\b.x a b", "\\x0.x x0 x1",
                       "(\\y.y x) (\\z.x z)", "y (\\y.x (\\x.x y) x)"):
            for value in ("x", "y", "x0 x1", "\\y.y", "\\a.x a y", "(\\x.x y) z", "f a b"):
                calls = [read(source), read(value), abstract(0, "x"), apply(2, 1), step(3), replace(0, "x", 1)]
                self.assertEqual(ask(*calls, same(4, 5))[4:], [[0, 4], [0, 5], [0, 1]], (source, value))


if __name__ == "__main__":
    unittest.main()
