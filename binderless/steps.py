"""Reductions in normal order."""

from binderless.nodes import ABSTRACTION, APPLICATION, BOUND, binders_around, is_too_large, part_end
from binderless.refusals import AlreadyNormal, TooManySteps

MOST_STEPS = 1000


def first_redex(term):
    # Abstractions are written in the order of their nodes, so the first redex here has the leftmost sign.
    for place in range(len(term) - 1):
        if term[place] == APPLICATION and term[place + 1] == ABSTRACTION:
            return place
    return None


def moved_within(part, binders):
    # With so many more binders around the part, what is bound outside of it has these in between too.
    nodes = list(part)
    for place, around in enumerate(binders_around(part)):
        node = part[place]
        if node[0] == BOUND and node[1] >= around:
            nodes[place] = (BOUND, node[1] + binders)
    return nodes


def put_for_binder(body, argument):
    # The argument is moved once for each number of binders that it comes to stand within, however often it is used.
    moved = {0: argument}
    nodes = []
    for node, around in zip(body, binders_around(body)):
        if node[0] != BOUND or node[1] < around:
            nodes.append(node)
        elif node[1] > around:
            # What is bound outside of the redex has one binder less in between.
            nodes.append((BOUND, node[1] - 1))
        else:
            if around not in moved:
                moved[around] = moved_within(argument, around)
            nodes.extend(moved[around])
    return tuple(nodes)


def reduce_at(term, place):
    body = place + 2
    argument = part_end(term, body)
    end = part_end(term, argument)
    return term[:place] + put_for_binder(term[body:argument], term[argument:end]) + term[end:]


def one_step(term):
    place = first_redex(term)
    if place is None:
        raise AlreadyNormal()
    return reduce_at(term, place)


def make_steps(term, most):
    # A pair is given back: the term that is come to, and how many steps lead there.
    if most > MOST_STEPS:
        raise TooManySteps()
    for made in range(most):
        place = first_redex(term)
        if place is None:
            return (term, made)
        further = reduce_at(term, place)
        if is_too_large(further):
            return (term, made)
        term = further
    return (term, most)
