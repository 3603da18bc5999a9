import unittest

from helpers import ask, binders, grown, last, nodes, read, same, text, with_100_backslashes, written


class Grammar(unittest.TestCase):
    def test_a_name(self):
        for name in ("x", "Z", "a", "z", "A", "x0", "aB_9", "a__", "f1_"):
            self.assertEqual(written(name), name)

    def test_a_row_is_applied_from_the_left(self):
        self.assertEqual(written("((f x) y) z"), "f x y z")
        self.assertEqual(last(read("f x y"), read("(f x) y"), same(0, 1)), [0, 1])
        self.assertEqual(last(read("f x y"), read("f (x y)"), same(0, 1)), [0, 0])

    def test_parentheses(self):
        self.assertEqual(written("(x)"), "x")
        self.assertEqual(written("((f)((x)))"), "f x")
        self.assertEqual(written("f(x y)"), "f (x y)")
        self.assertEqual(written("(f)x"), "f x")
        self.assertEqual(written("(f x)(g y)"), "f x (g y)")

    def test_an_abstraction(self):
        self.assertEqual(written("\\y.y"), "\\x0.x0")
        self.assertEqual(written("\\y.z"), "\\x0.z")
        self.assertEqual(written("\\a.\\b.a b"), "\\x0.\\x1.x0 x1")

    def test_a_body_goes_as_far_as_it_can(self):
        self.assertEqual(written("\\a.a b c"), "\\x0.x0 b c")
        self.assertEqual(written("(\\a.a b) a"), "(\\x0.x0 b) a")
        self.assertEqual(written("f (\\a.a b \\c.a c) a"), "f (\\x0.x0 b (\\x1.x0 x1)) a")

    def test_an_abstraction_behind_a_row_is_its_last_argument(self):
        self.assertEqual(written("f x \\y.y"), "f x (\\x0.x0)")
        self.assertEqual(written("f\\y.y z"), "f (\\x0.x0 z)")
        self.assertEqual(written("f \\y.g y \\z.y z"), "f (\\x0.g x0 (\\x1.x0 x1))")
        self.assertEqual(written("(f \\y.y) z"), "f (\\x0.x0) z")
        self.assertEqual(written("(f)(g)\\y.y"), "f g (\\x0.x0)")

    def test_blanks_and_newlines_between_tokens(self):
        spread = " \n\\ \n y \n . \n f \n ( \n y \n z \n ) \n "
        self.assertEqual(written(spread), "\\x0.f (x0 z)")
        self.assertEqual(written("f\nx"), "f x")
        self.assertEqual(written("  x"), "x")
        self.assertEqual(written("x\n\n"), "x")

    def test_nothing_else_is_a_blank(self):
        for byte in range(256):
            if byte in b" \n" or chr(byte).isalnum() and byte < 128 or byte in b"\\(._":
                continue
            # A closing parenthesis cannot stand there either: none is open.
            self.assertEqual(last(read([120, byte, 120])), [-1, 1], byte)
            self.assertEqual(last(read([byte, 120])), [-1, 0], byte)
            self.assertEqual(last(read([120, 32, byte])), [-1, 2], byte)

    def test_a_name_goes_as_far_as_it_can(self):
        self.assertEqual(last(read("xy"), nodes(0)), [0, 1])
        self.assertEqual(last(read("x y"), nodes(0)), [0, 3])
        self.assertEqual(last(read("\\x.xx"), read("\\x.y"), text(0)), [0] + list(b"\\x0.xx"))


class Binding(unittest.TestCase):
    def test_the_nearest_abstraction_binds(self):
        self.assertEqual(written("\\x.\\y.\\x.x y"), "\\x0.\\x1.\\x2.x2 x1")
        self.assertEqual(written("\\x.\\x.\\x.x"), "\\x0.\\x1.\\x2.x2")

    def test_a_shadowed_name_is_back_behind_the_inner_abstraction(self):
        self.assertEqual(written("\\x.(\\x.x) x"), "\\x0.(\\x1.x1) x0")
        self.assertEqual(written("\\x.f (\\y.\\x.x y) x y"), "\\x0.f (\\x1.\\x2.x2 x1) x0 y")

    def test_a_name_outside_is_free(self):
        self.assertEqual(written("(\\x.x) x"), "(\\x0.x0) x")
        self.assertEqual(written("x \\x.x"), "x (\\x0.x0)")

    def test_names_that_begin_alike_are_others(self):
        self.assertEqual(written("\\x.x1 X x_ x"), "\\x0.x1 X x_ x0")
        self.assertEqual(written("\\ab.a b ab"), "\\x0.a b x0")


class WrongPlaces(unittest.TestCase):
    def check(self, source, place):
        self.assertEqual(last(read(source)), [-1, place], source)

    def test_a_byte_that_cannot_stand_there(self):
        for source, place in (
            (")", 0), (".", 0), ("1", 0), ("_x", 0), ("+", 0), ("x)", 1), ("x.", 1), ("x y.z", 3),
            ("()", 1), ("(.", 1), ("f (x)) y", 5), ("\\.x", 1), ("\\(x).x", 1), ("\\\\x.x", 1), ("\\1.x", 1),
            ("\\)x", 1), ("\\x y.x", 3), ("\\x(y).x", 2), ("\\x\\y.x", 2), ("\\x)", 2), ("\\x 1", 3),
            ("\\x..x", 3), ("\\x.)", 3), ("(\\x.)", 4), ("(x\\y.)", 5), ("(x) 1", 4), ("(x)1", 3), ("x 1", 2),
            ("x _", 2), ("x\ty", 1), ("x\ry", 1), ("x\x00", 1), ("x\xff", 1), ("x-y", 1), ("\\x.x.y", 4),
            ("\\x:x", 2), ("@x", 0), ("[x", 0), ("`x", 0), ("{x", 0), ("x/", 1), ("x@", 1), ("x[", 1), ("x]", 1),
            ("x^", 1), ("x`", 1), ("x{", 1),
        ):
            self.check(source, place)

    def test_the_first_of_several_is_answered(self):
        self.check("x + y ) .", 2)
        self.check("f ) + \\", 2)

    def test_something_is_missing_at_the_end(self):
        for source in ("", " ", "\n \n", "(", "( ", "(x", "(x ", "((x)", "\\", "\\ ", "\\x", "\\x ", "\\x.",
                       "\\x. \n", "f \\", "f \\x", "f (\\x.", "f (\\x.x", "x ("):
            self.check(source, len(source))


class Edges(unittest.TestCase):
    def test_a_name_of_31_bytes(self):
        name = "a" + "b1_" * 10
        self.assertEqual(len(name), 31)
        self.assertEqual(written(name), name)
        self.assertEqual(written(f"\\{name}.{name} ({name})"), "\\x0.x0 x0")

    def test_a_name_of_32_bytes(self):
        name = "a" * 32
        self.assertEqual(last(read(name)), [-1, 31])
        self.assertEqual(last(read(f"f ({name})")), [-1, 34])
        self.assertEqual(last(read(f"\\{name}.x")), [-1, 32])
        self.assertEqual(last(read("a" * 31 + "1")), [-1, 31])
        self.assertEqual(last(read("a" * 31 + "_")), [-1, 31])
        self.assertEqual(last(read("a" * 500)), [-1, 31])

    def test_a_long_name_where_no_name_can_stand(self):
        self.assertEqual(last(read("\\x " + "a" * 32)), [-1, 3])

    def test_100_open_parentheses(self):
        self.assertEqual(ask(read("(" * 100 + "x" + ")" * 100), nodes(0)), [[0, 0], [0, 1]])

    def test_101_open_parentheses(self):
        self.assertEqual(last(read("(" * 101 + "x" + ")" * 101)), [-1, 100])
        self.assertEqual(last(read("(" * 101)), [-1, 100])
        self.assertEqual(last(read("(" * 100)), [-1, 100])
        self.assertEqual(last(read("f (x) " + "(" * 101)), [-1, 106])

    def test_only_those_open_at_once_are_counted(self):
        row = "((x))" * 60
        self.assertEqual(last(read(f"({row}) ({row})")), [0, 0])
        self.assertEqual(last(read("(x)" + "(" * 100 + "y" + ")" * 100)), [0, 0])

    def test_100_backslashes(self):
        source = with_100_backslashes()
        self.assertEqual(source.count("\\"), 100)
        self.assertEqual(ask(read(source), nodes(0)), [[0, 0], [0, 103]])

    def test_101_backslashes(self):
        source = with_100_backslashes()
        self.assertEqual(last(read(source + " \\y.y")), [-1, len(source) + 1])
        self.assertEqual(last(read("\\x." * 101 + "x")), [-1, 300])

    def test_a_wrong_backslash_is_not_counted_first(self):
        self.assertEqual(last(read("\\x." * 99 + "\\\\")), [-1, 298])

    def test_a_text_of_4096_bytes(self):
        self.assertEqual(last(read("x" + " " * 4095)), [0, 0])
        self.assertEqual(last(read("\n" * 4095 + "x")), [0, 0])
        self.assertEqual(last(read(" " * 4096)), [-1, 4096])
        self.assertEqual(last(read("(" + " " * 4095)), [-1, 4096])
        self.assertEqual(last(read("x" + " " * 4094 + "+")), [-1, 4095])

    def test_a_text_of_4097_bytes(self):
        self.assertEqual(last(read("x" + " " * 4096)), [-6])
        self.assertEqual(last(read("x" + " " * 4199)), [-6])

    def test_512_nodes(self):
        source = "\\y." + grown(256)
        self.assertEqual(ask(read(source), nodes(0)), [[0, 0], [0, 512]])

    def test_513_nodes(self):
        self.assertEqual(last(read(grown(257))), [-2])
        self.assertEqual(last(read("\\y.\\z." + grown(256))), [-2])

    def test_depth_100(self):
        self.assertEqual(ask(read("x " * 100), nodes(0)), [[0, 0], [0, 199]])
        self.assertEqual(ask(read(binders(99) + "x"), nodes(0)), [[0, 0], [0, 100]])
        self.assertEqual(ask(read("f (" * 99 + "x" + ")" * 99), nodes(0)), [[0, 0], [0, 199]])
        self.assertEqual(ask(read(binders(50) + "x " * 50), nodes(0)), [[0, 0], [0, 149]])
        self.assertEqual(ask(read("f " + binders(98) + "x"), nodes(0)), [[0, 0], [0, 101]])

    def test_depth_101(self):
        self.assertEqual(last(read("x " * 101)), [-2])
        self.assertEqual(last(read(binders(100) + "x")), [-2])
        self.assertEqual(last(read("f (" * 100 + "x" + ")" * 100)), [-2])
        self.assertEqual(last(read(binders(50) + "x " * 51)), [-2])
        self.assertEqual(last(read("f " + binders(99) + "x")), [-2])

    def test_a_row_deeper_than_calls_may_be_nested(self):
        self.assertEqual(last(read("x " * 2048)), [-2])
        self.assertEqual(last(read("(x)" * 1365)), [-2])
        self.assertEqual(last(read(binders(100) + "x " * 1800)), [-2])
        self.assertEqual(last(read("(" * 100 + "x " * 1900 + ")" * 100)), [-2])

    def test_a_long_row_with_a_wrong_end(self):
        self.assertEqual(last(read("x " * 2047 + ")")), [-1, 4094])
        self.assertEqual(last(read("(" + "x " * 2047)), [-1, 4095])


if __name__ == "__main__":
    unittest.main()
