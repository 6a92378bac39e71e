"""The graph that the calls build up."""

from buildqueries.refusals import EdgeRefusal, FullRefusal, NodeRefusal
from buildqueries.refusals import TextRefusal, TwiceRefusal, UnknownRefusal
from buildqueries.texts import is_text
from buildqueries.walks import chosen_path

MOST_NODES = 64
MOST_MARKS = 8


def check_text(row):
    if not is_text(row):
        raise TextRefusal()


class Node:
    def __init__(self, name, kind):
        self.name = name
        self.kind = kind
        self.marks = {}


class Graph:
    """Nodes and edges. Texts are tuples of bytes; needs[a] is the mask of what a needs."""

    def __init__(self):
        self.nodes = []
        self.number_by_name = {}
        self.needs = []

    def check_node(self, number):
        if not 0 <= number < len(self.nodes):
            raise NodeRefusal()

    def check_pair(self, a, b):
        self.check_node(a)
        self.check_node(b)

    def has_edge(self, a, b):
        return self.needs[a] >> b & 1 == 1

    def number_of(self, name):
        if name not in self.number_by_name:
            raise UnknownRefusal()
        return self.number_by_name[name]

    def add_node(self, name, kind):
        check_text(name)
        check_text(kind)
        if name in self.number_by_name:
            raise TwiceRefusal()
        number = len(self.nodes)
        if number == MOST_NODES:
            raise FullRefusal()
        self.nodes.append(Node(name, kind))
        self.needs.append(0)
        self.number_by_name[name] = number
        return number

    def add_edge(self, a, b):
        self.check_pair(a, b)
        if self.has_edge(a, b):
            return 0
        self.needs[a] = self.needs[a] | 1 << b
        return 1

    def cut_edge(self, a, b):
        self.check_pair(a, b)
        if not self.has_edge(a, b):
            raise EdgeRefusal()
        self.needs[a] = self.needs[a] & ~(1 << b)
        return 0

    def put_mark(self, number, name, text):
        self.check_node(number)
        check_text(name)
        check_text(text)
        marks = self.nodes[number].marks
        if len(marks) == MOST_MARKS and name not in marks:
            raise FullRefusal()
        marks[name] = text
        return 0

    def far(self, a, b):
        self.check_pair(a, b)
        # A path has one node more than its length; no path has no node, which makes -1.
        return len(chosen_path(self.needs, 1 << a, 1 << b)) - 1
