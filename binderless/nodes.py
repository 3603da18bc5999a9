"""Terms without binders' names.

A term is a tuple of its nodes, each ahead of its parts: an application ahead of its function, and this ahead of
its argument. A node is a pair. (FREE, name) is a free name, a tuple of bytes; (BOUND, n) belongs to the abstraction
that has n others between the two. So two terms are the same just if their tuples are equal, and every walk through
a term is a loop, however deep it is.
"""

FREE = "free"
BOUND = "bound"
APPLICATION = ("application", 0)
ABSTRACTION = ("abstraction", 0)

MOST_NODES = 512
MOST_DEPTH = 100


def apply_row(terms):
    nodes = [APPLICATION] * (len(terms) - 1)
    for term in terms:
        nodes.extend(term)
    return tuple(nodes)


def abstraction_of(body):
    return (ABSTRACTION,) + body


def bind_name(term, name):
    body = list(term)
    for place, around in enumerate(binders_around(term)):
        if term[place] == (FREE, name):
            body[place] = (BOUND, around)
    return abstraction_of(tuple(body))


def replace_name(term, name, part):
    # The part is a whole term: nothing in it counts binders around it, so it can stand anywhere as it is.
    nodes = []
    for node in term:
        if node == (FREE, name):
            nodes.extend(part)
        else:
            nodes.append(node)
    return tuple(nodes)


def free_names(term):
    # A dict keeps the order of first places and has each name once.
    names = {}
    for node in term:
        if node[0] == FREE:
            names[node[1]] = True
    return names


def part_end(term, start):
    missing = 1
    end = start
    while missing > 0:
        node = term[end]
        if node == APPLICATION:
            missing += 1
        elif node != ABSTRACTION:
            missing -= 1
        end += 1
    return end


def counts_above(term, for_application):
    # An abstraction counts one; an application one for the depth, and nothing where binders are counted.
    # The parts still to come wait on a stack with their counts, in the place of calls within one another.
    waiting = [0]
    counts = []
    for node in term:
        above = waiting.pop()
        counts.append(above)
        if node == APPLICATION:
            waiting.append(above + for_application)
            waiting.append(above + for_application)
        elif node == ABSTRACTION:
            waiting.append(above + 1)
    return counts


def binders_around(term):
    return counts_above(term, 0)


def depth_of(term):
    return 1 + max(counts_above(term, 1))


def is_too_large(term):
    return len(term) > MOST_NODES or depth_of(term) > MOST_DEPTH
