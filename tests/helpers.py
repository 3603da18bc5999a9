"""What the tests share: calls put together and answers taken apart."""

import binderless.terms


def row(text):
    data = text.encode("latin-1") if isinstance(text, str) else bytes(text)
    return [len(data)] + list(data)


def read(text):
    return [0] + row(text)


def text(t):
    return [1, t]


def nodes(t):
    return [2, t]


def same(t, u):
    return [3, t, u]


def apply(t, u):
    return [4, t, u]


def abstract(t, name):
    return [5, t] + row(name)


def replace(t, name, u):
    return [6, t, u] + row(name)


def step(t):
    return [7, t]


def normal(t, most):
    return [8, t, most]


def names(t):
    return [9, t]


def drop(t):
    return [10, t]


def ask(*calls):
    """The answers to these calls on one new object, a list each."""
    numbers = [number for call in calls for number in call]
    answered = binderless.terms.answers(numbers)
    lists = []
    place = 0
    while place < len(answered):
        start = place + 1
        place = start + answered[place]
        lists.append(answered[start:place])
    if place != len(answered) or len(lists) != len(calls):
        raise AssertionError(f"{len(calls)} calls, but answered was {answered}")
    return lists


def last(*calls):
    return ask(*calls)[-1]


def all_texts():
    """Calls that show all that is kept."""
    return [text(t) for t in range(17)]


def written(source):
    """The text that the program writes for the term that it reads from this one."""
    answer = last(read(source), text(0))
    if answer[0] != 0:
        raise AssertionError(f"{source!r} was refused: {answer}")
    return bytes(answer[1:]).decode("ascii")


def shown(*calls):
    """The number that the last of these calls answers, and the text of what is kept there."""
    answer = last(*calls)
    if answer[0] != 0:
        raise AssertionError(f"refused: {answer}")
    kept = last(*calls, text(answer[1]))
    return answer[1], bytes(kept[1:]).decode("ascii")


def grown(count, leaf="x"):
    """A text of so many names, as flat as they can be: 2 * count - 1 nodes."""
    if count == 1:
        return leaf
    half = count // 2
    return f"({grown(count - half, leaf)}) ({grown(half, leaf)})"


def binders(count):
    return "\\x." * count


def with_100_backslashes():
    """A term's text with 100 signs that is not too deep."""
    return f"({binders(50)}x) ({binders(50)}x)"
