"""Terms without binders' names.

A term is a tuple of its nodes, each ahead of its parts: an application ahead of its function, and this ahead of
its argument. A node is a pair. (FREE, name) is a free name, a tuple of bytes; (BOUND, n) belongs to the abstraction
that has n others between the two. So two terms are the same just if their tuples are equal, and every walk through
a term is a loop, however deep it is.
"""

FREE = "free"
BOUND = "bound"
APPLICATION = ("application", 0)
ABSTRACTION = ("abstraction", 0)

MOST_NODES = 512
MOST_DEPTH = 100


def apply_row(terms):
    nodes = [APPLICATION] * (len(terms) - 1)
    for term in terms:
        nodes.extend(term)
    return tuple(nodes)


def abstraction_of(body):
    return (ABSTRACTION,) + body


def bind_name(term, name):
    body = list(term)
    for place, around in enumerate(binders_around(term)):
        if term[place] == (FREE, name):
            body[place] = (BOUND, around)
    return abstraction_of(tuple(body))


def count_parts(node):
    if node == APPLICATION:
        return 2
    if node == ABSTRACTION:
        return 1
    return 0


def counts_above(term, counted):
    # The parts still to come wait on a stack with their counts, in the place of calls within one another.
    waiting = [0]
    counts = []
    for node in term:
        above = waiting.pop()
        counts.append(above)
        below = above + 1 if node in counted else above
        waiting.extend([below] * count_parts(node))
    return counts


def binders_around(term):
    return counts_above(term, (ABSTRACTION,))


def depth_of(term):
    return 1 + max(counts_above(term, (ABSTRACTION, APPLICATION)))


def is_too_large(term):
    return len(term) > MOST_NODES or depth_of(term) > MOST_DEPTH
