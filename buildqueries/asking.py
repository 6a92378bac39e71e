"""The calls that are put as texts of queries: what they answer, number by number."""

from buildqueries.meaning import meaning
from buildqueries.printer import plain_form
from buildqueries.reader import read_query
from buildqueries.refusals import Fault, SecondRefusal, UnknownRefusal
from buildqueries.walks import chosen_path, members

# The number of a fault in where is that of its refusal, without the sign, less this.
FAULTS_BEGIN = 10


def query(graph, text):
    return [0] + members(meaning(graph, read_query(text), {}))


def where(text):
    try:
        read_query(text)
    except Fault as fault:
        return [-fault.number - FAULTS_BEGIN, fault.position]
    return [0, 0]


def plain(text):
    return [0] + plain_form(read_query(text))


def read_second(text):
    try:
        return read_query(text)
    except Fault as fault:
        raise SecondRefusal(fault.number) from None


def second_meaning(graph, tree):
    try:
        return meaning(graph, tree, {})
    except UnknownRefusal as refusal:
        raise SecondRefusal(refusal.number) from None


def both_meanings(graph, a, b):
    """The masks of what a and b mean. Both are read before one is worked: so the refusals count in order."""
    first = read_query(a)
    second = read_second(b)
    return (meaning(graph, first, {}), second_meaning(graph, second))


def path(graph, a, b):
    masks = both_meanings(graph, a, b)
    return [0] + chosen_path(graph.needs, masks[0], masks[1])


def alike(graph, a, b):
    masks = both_meanings(graph, a, b)
    return [1 if masks[0] == masks[1] else 0]
