import unittest

from helpers import abstract, ask, binders, grown, last, nodes, read, replace, same, shown, text


def replaced(source, name, value):
    """The text of the term with the value's put for the name."""
    number, kept = shown(read(source), read(value), replace(0, name, 1))
    if number != 2:
        raise AssertionError(f"kept under {number}")
    return kept


class Places(unittest.TestCase):
    def test_a_name_that_is_free_at_one_place(self):
        self.assertEqual(replaced("x", "x", "y"), "y")
        self.assertEqual(replaced("f x", "x", "a b"), "f (a b)")
        self.assertEqual(replaced("f x", "f", "a b"), "a b x")

    def test_a_name_that_is_free_at_several_places(self):
        self.assertEqual(replaced("x (f x) (\\a.x a x)", "x", "y z"), "y z (f (y z)) (\\x0.y z x0 (y z))")

    def test_a_name_that_is_not_free(self):
        self.assertEqual(replaced("f y", "x", "a b"), "f y")
        self.assertEqual(replaced("\\a.a y", "a", "b"), "\\x0.x0 y")

    def test_a_name_that_begins_like_another(self):
        self.assertEqual(replaced("x xy X x_ x1", "x", "z"), "z xy X x_ x1")
        self.assertEqual(replaced("x xy x", "xy", "z"), "x z x")

    def test_a_name_that_is_bound_too(self):
        self.assertEqual(replaced("\\x.x", "x", "y"), "\\x0.x0")
        self.assertEqual(replaced("x (\\x.x) x", "x", "y"), "y (\\x0.x0) y")
        self.assertEqual(replaced("\\a.x (\\x.x a) x", "x", "y"), "\\x0.y (\\x1.x1 x0) y")

    def test_a_name_that_a_binder_is_written_with_is_not_free(self):
        self.assertEqual(replaced("\\a.a y", "x0", "z"), "\\x0.x0 y")

    def test_nothing_is_reduced(self):
        self.assertEqual(replaced("x y", "x", "\\a.a"), "(\\x0.x0) y")


class NoBinderCatches(unittest.TestCase):
    def test_names_that_binders_had(self):
        self.assertEqual(replaced("\\y.x y", "x", "y"), "\\x0.y x0")
        self.assertEqual(replaced("\\y.x y", "x", "f y"), "\\x0.f y x0")
        self.assertEqual(replaced("\\y.\\z.x y z", "x", "z y"), "\\x0.\\x1.z y x0 x1")

    def test_names_that_binders_are_written_with(self):
        self.assertEqual(replaced("\\y.x y", "x", "x0"), "\\x1.x0 x1")
        self.assertEqual(replaced("\\a.\\b.\\c.x a b c", "x", "x1 x0"), "\\x2.\\x3.\\x4.x1 x0 x2 x3 x4")

    def test_at_several_places_under_several_binders(self):
        self.assertEqual(
            replaced("x \\y.x (\\z.x y z) (\\y.x y)", "x", "y z"),
            "y z (\\x0.y z (\\x1.y z x0 x1) (\\x1.y z x1))")

    def test_a_name_that_was_left_out_can_be_had_again(self):
        self.assertEqual(replaced("\\a.a x0", "x0", "y"), "\\x0.x0 y")

    def test_what_is_bound_in_the_term_put_in_stays_so(self):
        self.assertEqual(replaced("\\a.\\b.x a b", "x", "\\p.\\q.p q r"), "\\x0.\\x1.(\\x2.\\x3.x2 x3 r) x0 x1")
        self.assertEqual(replaced("\\a.x", "x", "\\a.a"), "\\x0.\\x1.x1")

    def test_the_name_itself_free_in_what_is_put_in(self):
        self.assertEqual(replaced("x y x", "x", "f x"), "f x y (f x)")
        self.assertEqual(replaced("\\a.x a", "x", "x x"), "\\x0.x x x0")
        self.assertEqual(replaced("\\a.x a", "x", "x"), "\\x0.x x0")

    def test_an_abstraction_over_the_name_afterwards(self):
        calls = [read("\\y.x y"), read("y"), replace(0, "x", 1), abstract(2, "y")]
        self.assertEqual(shown(*calls), (3, "\\x0.\\x1.x0 x1"))


class Numbers(unittest.TestCase):
    def test_a_term_put_into_itself(self):
        self.assertEqual(shown(read("f x"), replace(0, "x", 0)), (1, "f (f x)"))
        self.assertEqual(shown(read("\\y.x y"), replace(0, "x", 0)), (1, "\\x0.(\\x1.x x1) x0"))

    def test_t_stands_ahead_of_u(self):
        self.assertEqual(shown(read("x"), read("f x"), replace(0, "x", 1)), (2, "f x"))
        self.assertEqual(shown(read("x y"), read("z"), replace(1, "x", 0)), (2, "z"))

    def test_what_they_were_stays(self):
        calls = [read("\\y.x y"), read("y"), replace(0, "x", 1), text(0), text(1), read("\\y.x y"), same(0, 3)]
        self.assertEqual(ask(*calls)[3:], [[0] + list(b"\\x0.x x0"), [0] + list(b"y"), [0, 3], [0, 1]])


class Names(unittest.TestCase):
    def test_a_name_of_31_bytes(self):
        name = "a" + "b1_" * 10
        self.assertEqual(replaced(f"f {name}", name, "y"), "f y")

    def test_a_name_of_32_bytes(self):
        for length in (32, 33, 4096, 4097, 4200):
            self.assertEqual(last(read("x"), replace(0, "a" * length, 0)), [-1], length)

    def test_what_is_no_name(self):
        for name in ("", "1", "1x", "_", "_x", " x", "x ", "x y", "x\n", "x.", "\\", "(x)", "x-", "x\x00", "x\xff"):
            self.assertEqual(last(read("x"), replace(0, name, 0)), [-1], name)


class TooLarge(unittest.TestCase):
    def test_nodes_at_the_edge(self):
        # 255 nodes twice and one application; with an abstraction around 512; with two 513.
        value = read(grown(128))
        for source, answer in (("x x", [0, 511]), ("\\y.x x", [0, 512]), ("\\y.\\z.x x", [-4]), ("x x x", [-4])):
            answers = ask(read(source), value, replace(0, "x", 1), nodes(2))
            self.assertEqual(answers[3], answer, source)
            self.assertEqual(answers[2], [0, 2] if answer[0] == 0 else [-2], source)

    def test_very_many_nodes(self):
        wide = grown(256)
        self.assertEqual(last(read(wide), replace(0, "x", 0)), [-2])

    def test_depth_at_the_edge(self):
        value = read("y " * 50)
        self.assertEqual(last(read("f (" * 50 + "x" + ")" * 50), value, replace(0, "x", 1)), [0, 2])
        self.assertEqual(last(read("f (" * 51 + "x" + ")" * 51), value, replace(0, "x", 1)), [-2])
        value = read(binders(49) + "y")
        self.assertEqual(last(read(binders(50).replace("x", "z") + "x"), value, replace(0, "x", 1)), [0, 2])
        self.assertEqual(last(read(binders(51).replace("x", "z") + "x"), value, replace(0, "x", 1)), [-2])

    def test_a_large_term_for_a_name_that_is_not_free(self):
        self.assertEqual(last(read("f y"), read("x " * 100), replace(0, "x", 1)), [0, 2])


if __name__ == "__main__":
    unittest.main()
