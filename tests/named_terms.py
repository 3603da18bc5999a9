"""A second and slower telling of what terms are, with names for all variables, to hold the program against.

A term is a name, ("\\", name, body) or (function, argument).
"""

import itertools


def terms_of(count, names):
    """Every term of so many nodes."""
    if count == 1:
        return list(names)
    found = [("\\", name, body) for name in names for body in terms_of(count - 1, names)]
    for left in range(1, count - 1):
        found += itertools.product(terms_of(left, names), terms_of(count - 1 - left, names))
    return found


def source_of(term):
    if isinstance(term, str):
        return term
    if len(term) == 3:
        return f"(\\{term[1]}.{source_of(term[2])})"
    return f"({source_of(term[0])} {source_of(term[1])})"


def free_names(term):
    if isinstance(term, str):
        return {term}
    if len(term) == 3:
        return free_names(term[2]) - {term[1]}
    return free_names(term[0]) | free_names(term[1])


def are_same(left, right, pairs=()):
    if isinstance(left, str) or isinstance(right, str):
        for pair in pairs:
            if left == pair[0] or right == pair[1]:
                return (left, right) == pair
        return left == right
    if len(left) != len(right):
        return False
    if len(left) == 3:
        return are_same(left[2], right[2], ((left[1], right[1]),) + pairs)
    return are_same(left[0], right[0], pairs) and are_same(left[1], right[1], pairs)


def expected_text(term):
    free = free_names(term)
    names = [name for name in (f"x{number}" for number in range(400)) if name not in free]

    def write(part, scope):
        if isinstance(part, str):
            return next((new for old, new in reversed(scope) if old == part), part)
        if len(part) == 3:
            name = names[len(scope)]
            return f"\\{name}.{write(part[2], scope + [(part[1], name)])}"
        function = write(part[0], scope)
        argument = write(part[1], scope)
        if isinstance(part[0], tuple) and len(part[0]) == 3:
            function = f"({function})"
        if isinstance(part[1], tuple):
            argument = f"({argument})"
        return f"{function} {argument}"

    return write(term, [])


def is_abstraction(term):
    return isinstance(term, tuple) and len(term) == 3


def node_count(term):
    return 1 if isinstance(term, str) else 1 + sum(node_count(part) for part in parts_of(term))


def depth(term):
    return 1 if isinstance(term, str) else 1 + max(depth(part) for part in parts_of(term))


def parts_of(term):
    return term[2:] if is_abstraction(term) else term


def is_too_large(term):
    return node_count(term) > 512 or depth(term) > 100


def put(term, name, value):
    """The term with the value put for the free name; a binder that would catch a name is renamed first."""
    if isinstance(term, str):
        return value if term == name else term
    if not is_abstraction(term):
        return put(term[0], name, value), put(term[1], name, value)
    binder, body = term[1:]
    if name not in free_names(term):
        return term
    if binder in free_names(value):
        taken = free_names(value) | free_names(body)
        fresh = next(f"v{number}" for number in itertools.count() if f"v{number}" not in taken)
        binder, body = fresh, put(body, binder, fresh)
    return "\\", binder, put(body, name, value)


def all_steps(term):
    """What the term can be reduced to, redex by redex, that of normal order first."""
    if isinstance(term, str):
        return []
    if is_abstraction(term):
        return [("\\", term[1], body) for body in all_steps(term[2])]
    function, argument = term
    found = [put(function[2], function[1], argument)] if is_abstraction(function) else []
    found += [(further, argument) for further in all_steps(function)]
    return found + [(function, further) for further in all_steps(argument)]


def normal_step(term):
    """None if the term is normal."""
    if isinstance(term, str):
        return None
    if is_abstraction(term):
        body = normal_step(term[2])
        return None if body is None else ("\\", term[1], body)
    function, argument = term
    if is_abstraction(function):
        return put(function[2], function[1], argument)
    further = normal_step(function)
    if further is not None:
        return further, argument
    further = normal_step(argument)
    return None if further is None else (function, further)


def normal_steps(term, most):
    made = 0
    while made < most:
        further = normal_step(term)
        if further is None or is_too_large(further):
            break
        term = further
        made += 1
    return term, made


def names_in_order(term, bound=()):
    if isinstance(term, str):
        return [] if term in bound else [term]
    if is_abstraction(term):
        return names_in_order(term[2], bound + term[1:2])
    return list(dict.fromkeys(names_in_order(term[0], bound) + names_in_order(term[1], bound)))
