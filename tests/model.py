"""What the program answers to each call, told a second time over terms with names."""

from named_terms import expected_text, is_too_large, names_in_order, node_count, normal_step, normal_steps, put

NAME_LENGTHS = range(1, 32)


def is_name(name):
    return len(name) in NAME_LENGTHS and name[0].isalpha() and name.replace("_", "a").isalnum() and name.isascii()


class Model:
    def __init__(self):
        self.kept = {}

    def missing(self, *numbers):
        return any(number not in self.kept for number in numbers)

    def keep(self, term, *more):
        if is_too_large(term):
            return [-2]
        if len(self.kept) == 16:
            return [-3]
        number = min(set(range(16)) - set(self.kept))
        self.kept[number] = term
        return [0, number, *more]

    def read(self, term):
        return self.keep(term)

    def text(self, t):
        return [-4] if self.missing(t) else [0] + list(expected_text(self.kept[t]).encode())

    def nodes(self, t):
        return [-4] if self.missing(t) else [0, node_count(self.kept[t])]

    def same(self, t, u):
        if self.missing(t, u):
            return [-4]
        return [0, int(expected_text(self.kept[t]) == expected_text(self.kept[u]))]

    def apply(self, t, u):
        return [-4] if self.missing(t, u) else self.keep((self.kept[t], self.kept[u]))

    def abstract(self, t, name):
        if self.missing(t):
            return [-4]
        return self.keep(("\\", name, self.kept[t])) if is_name(name) else [-1]

    def replace(self, t, name, u):
        if self.missing(t, u):
            return [-4]
        return self.keep(put(self.kept[t], name, self.kept[u])) if is_name(name) else [-1]

    def step(self, t):
        if self.missing(t):
            return [-4]
        further = normal_step(self.kept[t])
        return [-5] if further is None else self.keep(further)

    def normal(self, t, most):
        if self.missing(t):
            return [-4]
        if most > 1000:
            return [-6]
        return self.keep(*normal_steps(self.kept[t], most))

    def names(self, t):
        if self.missing(t):
            return [-4]
        answer = [0]
        for name in names_in_order(self.kept[t]):
            answer += [len(name), *name.encode()]
        return answer

    def drop(self, t):
        if self.missing(t):
            return [-4]
        self.kept.pop(t)
        return [0]
