import unittest

from helpers import abstract, apply, ask, binders, grown, last, nodes, read, same, shown, text


class Apply(unittest.TestCase):
    def test_the_number_and_what_is_kept(self):
        self.assertEqual(shown(read("f x"), read("y z"), apply(0, 1)), (2, "f x (y z)"))
        self.assertEqual(shown(read("f x"), read("y z"), apply(1, 0)), (2, "y z (f x)"))
        self.assertEqual(shown(read("x"), apply(0, 0)), (1, "x x"))

    def test_nothing_is_reduced(self):
        self.assertEqual(shown(read("\\x.x"), read("y"), apply(0, 1)), (2, "(\\x0.x0) y"))

    def test_free_names_stay_free(self):
        self.assertEqual(shown(read("\\x.x y"), read("x"), apply(0, 1)), (2, "(\\x0.x0 y) x"))
        self.assertEqual(shown(read("\\x.x"), read("x0"), apply(0, 1)), (2, "(\\x1.x1) x0"))

    def test_what_it_was_made_of_stays(self):
        calls = [read("\\x.x"), read("x0"), apply(0, 1), text(0), text(1)]
        self.assertEqual(ask(*calls)[-2:], [[0] + list(b"\\x0.x0"), [0] + list(b"x0")])

    def test_nodes_at_the_edge(self):
        # 511 nodes and 513 nodes.
        self.assertEqual(ask(read(grown(128)), apply(0, 0), nodes(1)), [[0, 0], [0, 1], [0, 511]])
        self.assertEqual(ask(read(grown(128)), read(grown(129)), apply(0, 1)), [[0, 0], [0, 1], [-2]])
        # 512 nodes and 513 nodes.
        half = "\\y." + grown(128)
        calls = [read(half), read(grown(128)), apply(0, 1), nodes(2), apply(0, 0)]
        self.assertEqual(ask(*calls)[2:], [[0, 2], [0, 512], [-2]])

    def test_depth_at_the_edge(self):
        calls = [read("x " * 99), read("x"), apply(0, 1), apply(2, 1), apply(1, 2), apply(1, 0), text(3)]
        self.assertEqual(ask(*calls)[2:6], [[0, 2], [-2], [-2], [0, 3]])


class Abstract(unittest.TestCase):
    def test_the_number_and_what_is_kept(self):
        self.assertEqual(shown(read("f x (x y)"), abstract(0, "x")), (1, "\\x0.f x0 (x0 y)"))
        self.assertEqual(shown(read("f x (x y)"), abstract(0, "f"), abstract(1, "y")), (2, "\\x0.\\x1.x1 x (x x0)"))

    def test_within_abstractions(self):
        self.assertEqual(shown(read("\\a.x \\b.a b x"), abstract(0, "x")), (1, "\\x0.\\x1.x0 (\\x2.x1 x2 x0)"))

    def test_what_is_bound_already_stays(self):
        self.assertEqual(shown(read("(\\x.x) x"), abstract(0, "x")), (1, "\\x0.(\\x1.x1) x0"))
        self.assertEqual(shown(read("\\x.x"), abstract(0, "x")), (1, "\\x0.\\x1.x1"))

    def test_a_binders_written_name_is_not_a_free_name(self):
        self.assertEqual(shown(read("\\x.x y"), abstract(0, "x0")), (1, "\\x0.\\x1.x1 y"))

    def test_a_name_that_was_left_out_can_be_had_again(self):
        self.assertEqual(shown(read("\\a.a x0"), abstract(0, "x0")), (1, "\\x0.\\x1.x1 x0"))

    def test_a_name_that_is_not_free_in_the_term(self):
        self.assertEqual(shown(read("f x"), abstract(0, "y")), (1, "\\x0.f x"))
        self.assertEqual(shown(read("xy"), abstract(0, "x")), (1, "\\x0.xy"))
        self.assertEqual(shown(read("x"), abstract(0, "xy")), (1, "\\x0.x"))

    def test_as_it_would_be_read(self):
        for body in ("x", "y", "x y", "\\y.x", "\\x.x y", "(\\x.x) (\\y.x y)"):
            calls = [read(body), abstract(0, "x"), read("\\x." + body), same(1, 2)]
            self.assertEqual(last(*calls), [0, 1], body)

    def test_what_it_was_made_of_stays(self):
        calls = [read("f x"), abstract(0, "x"), text(0), read("f x"), same(0, 2)]
        self.assertEqual(ask(*calls)[2:], [[0] + list(b"f x"), [0, 2], [0, 1]])

    def test_no_name_at_all(self):
        self.assertEqual(last(read("x"), abstract(0, "")), [-1])

    def test_what_is_no_name(self):
        for name in ("1", "1x", "_", "_x", " ", " x", "x ", "x y", "x\n", "x.", "\\", "(x)", "x-", "x\x00", "x\xff",
                     "\xe4", "x\xe4", "@", "[", "`", "{", "x/", "x:", "x@", "x[", "x`", "x{"):
            self.assertEqual(last(read("x"), abstract(0, name)), [-1], name)

    def test_names_of_31_and_of_32_bytes(self):
        name = "a" * 31
        self.assertEqual(shown(read("f " + name), abstract(0, name)), (1, "\\x0.f x0"))
        self.assertEqual(last(read("x"), abstract(0, "a" * 32)), [-1])
        self.assertEqual(last(read("x"), abstract(0, "a" * 4097)), [-1])
        self.assertEqual(last(read("x"), abstract(0, "a" * 4200)), [-1])

    def test_nodes_at_the_edge(self):
        calls = [read(grown(256)), abstract(0, "x"), nodes(1), abstract(1, "x"), abstract(1, "y")]
        self.assertEqual(ask(*calls), [[0, 0], [0, 1], [0, 512], [-2], [-2]])

    def test_depth_at_the_edge(self):
        calls = [read("x " * 99), abstract(0, "x"), abstract(1, "x"), abstract(1, "y")]
        self.assertEqual(ask(*calls), [[0, 0], [0, 1], [-2], [-2]])
        calls = [read(binders(98) + "y"), abstract(0, "y"), abstract(1, "y")]
        self.assertEqual(ask(*calls), [[0, 0], [0, 1], [-2]])


if __name__ == "__main__":
    unittest.main()
