"""Builds lists of calls, and takes the list of answers apart again."""

from buildqueries.graph import answers

TEXT, TWICE, FULL, NODE, EDGE = -1, -2, -3, -4, -5
LONG, TOKEN, SYNTAX, DEEP, VARIABLE, UNKNOWN = -11, -12, -13, -14, -15, -16


def octets(text):
    return list(text.encode("latin-1")) if isinstance(text, str) else list(text)


def row(text):
    numbers = octets(text)
    return [len(numbers)] + numbers


def node(name, kind="lib"):
    return [0] + row(name) + row(kind)


def edge(a, b):
    return [1, a, b]


def cut(a, b):
    return [2, a, b]


def mark(a, name, text):
    return [3, a] + row(name) + row(text)


def query(text):
    return [4] + row(text)


def where(text):
    return [5] + row(text)


def plain(text):
    return [6] + row(text)


def path(a, b):
    return [7] + row(a) + row(b)


def alike(a, b):
    return [8] + row(a) + row(b)


def far(a, b):
    return [9, a, b]


def apart(told):
    """The answers as one list a call."""
    found = []
    place = 0
    while place < len(told):
        count = told[place]
        found.append(told[place + 1:place + 1 + count])
        if len(found[-1]) != count or count < 1:
            raise AssertionError(f"a count that does not fit at {place}: {told}")
        place += 1 + count
    return found


def ask(*calls):
    """What each call of one line answers, as lists."""
    found = apart(answers([number for call in calls for number in call]))
    if len(found) != len(calls):
        raise AssertionError(f"{len(calls)} calls, {len(found)} answers")
    return found


def ask_last(*calls):
    return ask(*calls)[-1]


def fault(text):
    """The refusal's number and the position that where tells of a text, or None if it can be read."""
    told = ask_last(where(text))
    if len(told) != 2:
        raise AssertionError(f"where tells {told}")
    return None if told == [0, 0] else (-10 - told[0], told[1])


def nodes(count):
    """Calls for nodes n0, n1, n2 .."""
    return [node(f"n{number}") for number in range(count)]


def edges(*pairs):
    return [edge(a, b) for a, b in pairs]
