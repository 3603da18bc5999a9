import unittest

from helpers import abstract, apply, binders, grown, last, read, same, text, with_100_backslashes, written


class Parentheses(unittest.TestCase):
    def test_none_around_the_whole_nor_around_a_name(self):
        self.assertEqual(written("((x))"), "x")
        self.assertEqual(written("(f) (x)"), "f x")
        self.assertEqual(written("(\\y.(y))"), "\\x0.x0")

    def test_around_a_function_that_is_an_abstraction(self):
        self.assertEqual(written("(\\y.y) x"), "(\\x0.x0) x")
        self.assertEqual(written("(\\y.y) x z"), "(\\x0.x0) x z")

    def test_none_around_a_function_that_is_an_application(self):
        self.assertEqual(written("(f x) y"), "f x y")

    def test_around_an_argument_that_is_no_name(self):
        self.assertEqual(written("f (x y)"), "f (x y)")
        self.assertEqual(written("f (\\y.y)"), "f (\\x0.x0)")
        self.assertEqual(written("f \\y.y"), "f (\\x0.x0)")
        self.assertEqual(written("f (g (h x))"), "f (g (h x))")

    def test_none_around_a_body(self):
        self.assertEqual(written("\\y.(y x)"), "\\x0.x0 x")
        self.assertEqual(written("\\y.(\\z.z)"), "\\x0.\\x1.x1")
        self.assertEqual(written("\\y.(\\z.z) y"), "\\x0.(\\x1.x1) x0")


class BinderNames(unittest.TestCase):
    def test_by_how_many_binders_are_around(self):
        self.assertEqual(written("(\\a.\\b.a b) (\\c.c)"), "(\\x0.\\x1.x0 x1) (\\x0.x0)")

    def test_names_that_are_free_are_left_out(self):
        self.assertEqual(written("\\a.x0 a"), "\\x1.x0 x1")
        self.assertEqual(written("\\a.\\b.a b x1"), "\\x0.\\x2.x0 x2 x1")
        self.assertEqual(written("\\a.\\b.\\c.a b c x1 x2 x0"), "\\x3.\\x4.\\x5.x3 x4 x5 x1 x2 x0")

    def test_free_anywhere_in_the_whole_term(self):
        self.assertEqual(written("(\\a.a) x0"), "(\\x1.x1) x0")
        self.assertEqual(written("f x1 (\\a.\\b.a b) (\\c.x0)"), "f x1 (\\x2.\\x3.x2 x3) (\\x2.x0)")

    def test_names_that_are_bound_are_not_left_out(self):
        self.assertEqual(written("\\x1.\\x0.x1 x0"), "\\x0.\\x1.x0 x1")
        self.assertEqual(written("(\\x0.x0) y"), "(\\x0.x0) y")

    def test_only_decimals_without_leading_zeros_are_such_names(self):
        self.assertEqual(written("\\a.a x00 x X0 x0_ x01 xx0"), "\\x0.x0 x00 x X0 x0_ x01 xx0")

    def test_x10_and_above(self):
        names = [f"x{number}" for number in range(12)]
        heads = "".join(f"\\{name}." for name in names)
        source = "".join(f"\\a{name}." for name in names) + " ".join(f"a{name}" for name in names)
        self.assertEqual(written(source), heads + " ".join(names))

    def test_x10_left_out(self):
        names = [f"x{number}" for number in range(13) if number != 10]
        heads = "".join(f"\\{name}." for name in names)
        self.assertEqual(written("\\a." * 12 + "a x10"), heads + "x12 x10")

    def test_as_many_as_can_be(self):
        heads = "".join(f"\\x{number}." for number in range(99))
        self.assertEqual(written(binders(99) + "x"), heads + "x98")

    def test_many_left_out(self):
        row = " ".join(f"x{number}" for number in range(90))
        self.assertEqual(written(f"\\a.\\b.{row} a b"), f"\\x90.\\x91.{row} x90 x91")


def expected_row_of_rows(name, depth):
    """The text of a term that is applied to itself, depth times over, from a name on."""
    source = name.encode()
    for level in range(depth):
        argument = source if level == 0 else b"(" + source + b")"
        source = source + b" " + argument
    return source


class ReadBack(unittest.TestCase):
    def test_what_is_written_is_read_back_as_the_same_term(self):
        for source in (
            "x", "f x y", "f (x y)", "\\x.x", "\\x.\\y.x", "(\\x.x x) (\\x.x x)", "f \\x.x \\y.y x", "\\x0.x1 x0",
            "x0 \\x.x x1 \\y.y x", "(\\x.y) ((\\y.y) x)", "\\y." + grown(256), "x " * 100, binders(99) + "x",
            "f (" * 99 + "x" + ")" * 99, with_100_backslashes(),
        ):
            again = written(source)
            self.assertEqual(last(read(source), read(again), same(0, 1)), [0, 1], source)
            self.assertEqual(written(again), again)

    def test_a_text_may_be_longer_than_one_that_can_be_read(self):
        calls = [read(grown(64, "b" * 31)), apply(0, 0), apply(1, 1), text(2)]
        answer = last(*calls)
        self.assertEqual(answer, [0] + list(expected_row_of_rows("b" * 31, 8)))

    def test_a_text_may_have_more_backslashes_than_one_that_can_be_read(self):
        calls = [read(binders(90) + "x"), apply(0, 0), apply(1, 1), text(2)]
        answer = last(*calls)
        self.assertEqual(answer[0], 0)
        self.assertEqual(bytes(answer[1:]).count(b"\\"), 360)

    def test_a_text_of_a_term_that_was_made(self):
        calls = [read("f x"), read("x0"), apply(0, 1), abstract(2, "x"), text(3)]
        self.assertEqual(last(*calls), [0] + list(b"\\x1.f x1 x0"))


if __name__ == "__main__":
    unittest.main()
