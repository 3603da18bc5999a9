import unittest

from helpers import abstract, apply, last, nodes, read, same


class Nodes(unittest.TestCase):
    def test_nodes(self):
        for source, count in (
            ("x", 1), ("abc", 1), ("f x", 3), ("f x y", 5), ("f (x y)", 5), ("\\x.x", 2), ("\\x.\\y.y", 3),
            ("(\\x.x) y", 4), ("f \\x.x x", 6), ("(((x)))", 1), ("(\\x.x x) (\\x.x x)", 9),
        ):
            self.assertEqual(last(read(source), nodes(0)), [0, count], source)

    def test_binders_names_do_not_matter(self):
        self.assertEqual(last(read("\\a.\\b.a"), nodes(0)), last(read("\\x.\\y.x"), nodes(0)))

    def test_nodes_of_terms_that_were_made(self):
        self.assertEqual(last(read("f x"), apply(0, 0), nodes(1)), [0, 7])
        self.assertEqual(last(read("f x"), abstract(0, "y"), nodes(1)), [0, 4])


class Same(unittest.TestCase):
    def check(self, left, right, answer):
        self.assertEqual(last(read(left), read(right), same(0, 1)), [0, answer], (left, right))
        self.assertEqual(last(read(left), read(right), same(1, 0)), [0, answer], (left, right))

    def test_a_term_and_itself(self):
        self.assertEqual(last(read("\\x.x y"), same(0, 0)), [0, 1])

    def test_binders_names_alone(self):
        self.check("\\x.x", "\\y.y", 1)
        self.check("\\x.\\y.x y", "\\y.\\x.y x", 1)
        self.check("\\x.\\x.x", "\\x.\\y.y", 1)
        self.check("\\x.z", "\\y.z", 1)
        self.check("\\x.(\\x.x) x", "\\a.(\\b.b) a", 1)
        self.check("(\\x.x) y", "(\\y.y) y", 1)

    def test_blanks_and_parentheses(self):
        self.check("f x y", " ( (f\nx) ) (y)", 1)
        self.check("f \\x.x y", "f(\\x.(x y))", 1)

    def test_a_free_name(self):
        self.check("x", "y", 0)
        self.check("x", "X", 0)
        self.check("x", "x0", 0)
        self.check("\\x.y", "\\x.z", 0)
        self.check("f x y", "f y x", 0)

    def test_free_and_bound(self):
        self.check("\\x.x", "\\x.y", 0)
        self.check("\\x.y", "\\y.y", 0)
        self.check("\\x0.y", "\\y.x0", 0)
        self.check("(\\x.x) x", "(\\x.x) y", 0)

    def test_the_binding_place(self):
        self.check("\\x.\\y.x", "\\x.\\y.y", 0)
        self.check("\\x.\\y.x y", "\\x.\\y.y x", 0)
        self.check("\\x.\\x.x", "\\x.\\y.x", 0)
        self.check("\\x.\\y.\\z.x z", "\\x.\\y.\\z.y z", 0)

    def test_how_they_are_built(self):
        self.check("f x y", "f (x y)", 0)
        self.check("\\x.x y", "(\\x.x) y", 0)
        self.check("x", "x x", 0)
        self.check("\\x.x", "\\x.\\x.x", 0)
        self.check("x \\y.y z", "x (\\y.y) z", 0)
        self.check("x", "\\y.x", 0)

    def test_terms_that_were_made(self):
        calls = [read("f x"), read("y"), apply(0, 1), read("f x y"), same(2, 3)]
        self.assertEqual(last(*calls), [0, 1])
        calls = [read("f x"), abstract(0, "x"), read("\\z.f z"), same(1, 2)]
        self.assertEqual(last(*calls), [0, 1])


if __name__ == "__main__":
    unittest.main()
