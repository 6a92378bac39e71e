"""The calls on one graph, as a list of whole numbers, and their answers, as another."""

from buildqueries.asking import alike, path, plain, query, where
from buildqueries.refusals import Refusal
from buildqueries.store import Graph

NODE = 0
EDGE = 1
CUT = 2
MARK = 3
QUERY = 4
WHERE = 5
PLAIN = 6
PATH = 7
ALIKE = 8
FAR = 9


class Feed:
    """Takes the calls' numbers one behind another, and leaves their list as it is."""

    def __init__(self, numbers):
        self.numbers = numbers
        self.place = 0

    def is_empty(self):
        return self.place == len(self.numbers)

    def take_number(self):
        number = self.numbers[self.place]
        self.place += 1
        return number

    def take_row(self):
        count = self.take_number()
        row = tuple(self.numbers[self.place:self.place + count])
        self.place += count
        return row


def done_by_numbers(graph, call, feed):
    """A call on nodes and edges: the one number that it answers."""
    if call == NODE:
        return graph.add_node(feed.take_row(), feed.take_row())
    if call == EDGE:
        return graph.add_edge(feed.take_number(), feed.take_number())
    if call == CUT:
        return graph.cut_edge(feed.take_number(), feed.take_number())
    if call == MARK:
        return graph.put_mark(feed.take_number(), feed.take_row(), feed.take_row())
    if call == FAR:
        return graph.far(feed.take_number(), feed.take_number())
    raise ValueError(f"there is no call {call}")


def done(graph, feed):
    """Takes one call, does it, and gives what it answers.

    All of a call's numbers are taken before it is done: a refused call is passed over whole.
    """
    call = feed.take_number()
    if call == QUERY:
        return query(graph, feed.take_row())
    if call == WHERE:
        return where(feed.take_row())
    if call == PLAIN:
        return plain(feed.take_row())
    if call == PATH:
        return path(graph, feed.take_row(), feed.take_row())
    if call == ALIKE:
        return alike(graph, feed.take_row(), feed.take_row())
    return [done_by_numbers(graph, call, feed)]


def answer(graph, feed):
    try:
        return done(graph, feed)
    except Refusal as refusal:
        return [refusal.number]


def answers(calls):
    """For each call of the list, in order: how many numbers it answers, then these."""
    graph = Graph()
    feed = Feed(calls)
    told = []
    while not feed.is_empty():
        row = answer(graph, feed)
        told.append(len(row))
        told.extend(row)
    return told
