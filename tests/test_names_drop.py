import unittest

from helpers import (
    abstract, all_texts, apply, ask, drop, last, names, nodes, normal, read, replace, same, shown, step, text)


def free_names(*calls):
    """The names that the last of these calls answers."""
    answer = last(*calls)
    if answer[0] != 0:
        raise AssertionError(f"refused: {answer}")
    found = []
    place = 1
    while place < len(answer):
        start = place + 1
        place = start + answer[place]
        found.append(bytes(answer[start:place]).decode("ascii"))
    if place != len(answer):
        raise AssertionError(f"answered {answer}")
    return found


class Names(unittest.TestCase):
    def test_how_many_bytes_and_these(self):
        self.assertEqual(last(read("f ab"), names(0)), [0, 1, 102, 2, 97, 98])

    def test_the_order_of_first_places(self):
        self.assertEqual(free_names(read("f x (g y) z"), names(0)), ["f", "x", "g", "y", "z"])
        self.assertEqual(free_names(read("z (y x) w"), names(0)), ["z", "y", "x", "w"])
        self.assertEqual(free_names(read("(\\a.d a c) (b a)"), names(0)), ["d", "c", "b", "a"])

    def test_each_once(self):
        self.assertEqual(free_names(read("x y x (y x) z z"), names(0)), ["x", "y", "z"])
        self.assertEqual(free_names(read("x x"), names(0)), ["x"])

    def test_names_that_begin_alike(self):
        self.assertEqual(free_names(read("x xy X x_ x0 x"), names(0)), ["x", "xy", "X", "x_", "x0"])

    def test_free_and_bound_in_one_term(self):
        self.assertEqual(free_names(read("(\\x.x y) x"), names(0)), ["y", "x"])
        self.assertEqual(free_names(read("\\x.x y \\y.y z"), names(0)), ["y", "z"])

    def test_without_a_free_name(self):
        for source in ("\\x.x", "\\x.\\y.x y", "(\\x.x x) (\\x.x x)"):
            self.assertEqual(last(read(source), names(0)), [0], source)

    def test_binders_are_written_with_other_names(self):
        self.assertEqual(free_names(read("\\a.a x1 x0"), names(0)), ["x1", "x0"])

    def test_a_name_of_31_bytes(self):
        name = "a" + "b1_" * 10
        self.assertEqual(last(read(name), names(0)), [0, 31] + list(name.encode()))
        self.assertEqual(free_names(read(f"f {name} x"), names(0)), ["f", name, "x"])

    def test_as_many_as_can_be(self):
        row = [f"a{number}" for number in range(256)]
        source = " ".join(f"({' '.join(row[start:start + 16])})" for start in range(0, 256, 16))
        self.assertEqual(free_names(read(source), names(0)), row)

    def test_of_terms_that_were_made(self):
        self.assertEqual(free_names(read("f x"), read("y f"), apply(1, 0), names(2)), ["y", "f", "x"])
        self.assertEqual(free_names(read("f x"), abstract(0, "f"), names(1)), ["x"])
        self.assertEqual(free_names(read("f x"), read("y x"), replace(0, "f", 1), names(2)), ["y", "x"])
        self.assertEqual(free_names(read("(\\a.b a) (c d)"), step(0), names(1)), ["b", "c", "d"])
        self.assertEqual(free_names(read("(\\a.\\b.b) c d"), normal(0, 2), names(1)), ["d"])

    def test_nothing_is_kept(self):
        self.assertEqual(ask(read("x"), names(0), text(1), read("y"))[2:], [[-4], [0, 1]])

    def test_a_number_that_is_not_kept(self):
        for number in (1, 15, 16, 2**32 - 1):
            self.assertEqual(last(read("x"), names(number)), [-4])


class Drop(unittest.TestCase):
    def test_nothing_behind_the_0(self):
        self.assertEqual(last(read("x"), drop(0)), [0])

    def test_the_number_is_free_again(self):
        self.assertEqual(ask(read("x"), drop(0), read("y"), text(0)), [[0, 0], [0], [0, 0], [0, 121]])

    def test_the_least_free_number_is_taken_next(self):
        four = [read("a"), read("b"), read("c"), read("d")]
        self.assertEqual(ask(*four, drop(2), drop(1), read("e"), read("f"), read("g"))[-3:], [[0, 1], [0, 2], [0, 4]])
        self.assertEqual(ask(*four, drop(3), drop(0), apply(1, 2), abstract(1, "b"), step(0))[-3:],
                         [[0, 0], [0, 3], [-5]])

    def test_for_each_call_that_keeps(self):
        before = [read("(\\x.x) a"), read("b"), read("c"), drop(1)]
        for call in (read("x"), apply(0, 2), abstract(0, "a"), replace(0, "a", 2), step(0), normal(0, 1)):
            self.assertEqual(last(*before, call)[:2], [0, 1], call)

    def test_others_stay_under_their_numbers(self):
        calls = [read("a"), read("b"), read("c"), drop(1), text(0), text(1), text(2)]
        self.assertEqual(ask(*calls)[4:], [[0, 97], [-4], [0, 99]])

    def test_a_term_dropped_is_kept_no_more(self):
        before = [read("(\\x.x) a"), read("(\\x.x) a"), drop(0)]
        for call in (text(0), nodes(0), same(0, 1), same(1, 0), same(0, 0), apply(0, 1), apply(1, 0),
                     abstract(0, "a"), replace(0, "a", 1), replace(1, "a", 0), step(0), normal(0, 1), names(0),
                     drop(0)):
            self.assertEqual(last(*before, call), [-4], call)

    def test_terms_made_of_it_stay(self):
        before = [read("(\\x.x) a"), apply(0, 0), abstract(0, "a"), replace(0, "a", 0), step(0), normal(0, 9)]
        wanted = ask(*before, *all_texts())[len(before) + 1:]
        self.assertEqual(ask(*before, drop(0), *all_texts())[len(before) + 2:], wanted)

    def test_a_term_like_another_is_dropped_alone(self):
        self.assertEqual(ask(read("x"), normal(0, 0), drop(0), text(1))[2:], [[0], [0, 120]])

    def test_twice(self):
        self.assertEqual(ask(read("x"), drop(0), drop(0)), [[0, 0], [0], [-4]])

    def test_what_was_never_kept(self):
        self.assertEqual(ask(drop(0)), [[-4]])
        for number in (1, 15, 16, 2**31, 2**32 - 1):
            self.assertEqual(ask(read("x"), drop(number), text(0)), [[0, 0], [-4], [0, 120]])

    def test_16_kept_one_dropped_one_more_read(self):
        full = [read(f"a{number}") for number in range(16)]
        for number in range(16):
            calls = [*full, read("x"), drop(number), read("x"), read("y"), text(number)]
            self.assertEqual(ask(*calls)[16:], [[-3], [0], [0, number], [-3], [0, 120]])

    def test_all_dropped(self):
        full = [read(f"a{number}") for number in range(16)]
        calls = [*full, *[drop(number) for number in range(16)], *all_texts(), read("x")]
        self.assertEqual(ask(*calls)[16:], [[0]] * 16 + [[-4]] * 17 + [[0, 0]])

    def test_dropped_and_read_over_and_over(self):
        calls = [read("x"), drop(0)] * 99 + [read("\\y.y")]
        self.assertEqual(shown(*calls), (0, "\\x0.x0"))


if __name__ == "__main__":
    unittest.main()
