"""Terms written as texts, with names for the binders."""

from binderless.nodes import ABSTRACTION, APPLICATION, BOUND, binders_around, free_names
from binderless.signs import BACKSLASH, DOT, LEFT, RIGHT, SMALL_X, SPACE


def numbered_name(number):
    return (SMALL_X,) + tuple([ord(digit) for digit in str(number)])


def binder_names(term, most):
    free = free_names(term)
    names = []
    number = 0
    while len(names) < most:
        name = numbered_name(number)
        if name not in free:
            names.append(name)
        number += 1
    return names


# A part is a pair: the first node of a term, and the term's text.


def in_parentheses(text):
    return [LEFT] + text + [RIGHT]


def function_text(part):
    return in_parentheses(part[1]) if part[0] == ABSTRACTION else part[1]


def argument_text(part):
    return in_parentheses(part[1]) if part[0] == ABSTRACTION or part[0] == APPLICATION else part[1]


def node_text(node, around, names, parts):
    if node == APPLICATION:
        function = parts.pop()
        argument = parts.pop()
        return function_text(function) + [SPACE] + argument_text(argument)
    if node == ABSTRACTION:
        body = parts.pop()
        return [BACKSLASH] + list(names[around]) + [DOT] + body[1]
    if node[0] == BOUND:
        return list(names[around - 1 - node[1]])
    return list(node[1])


def write_term(term):
    arounds = binders_around(term)
    names = binder_names(term, max(arounds))
    parts = []
    # From the end, so that a node's parts are written before it.
    for place in range(len(term) - 1, -1, -1):
        text = node_text(term[place], arounds[place], names, parts)
        parts.append((term[place], text))
    return parts[0][1]
