"""The document's own example."""

import unittest

from buildqueries.reader import read_query
from buildqueries.refusals import Fault
from tests.helper import ask, edge, node, octets, query

EXAMPLE = [
    node("app", "bin"),
    node("lib", "bin"),
    node("util", "lib"),
    edge(0, 1),
    edge(1, 2),
    edge(0, 2),
]

QUERIES = [
    ('deps("app")', [0, 0, 1, 2]),
    ('deps("app", 0)', [0, 0]),
    ('needers(all, "util", 1)', [0, 0, 1, 2]),
    ('somepath("app", "util")', [0, 0, 2]),
    ('allpaths("app", "util") - "util"', [0, 0, 1]),
    ('kind("bin", all) & deps("lib")', [0, 1]),
    ("leaves(all)", [0, 2]),
    ('let $x = deps("lib") in roots($x)', [0, 1]),
]

FAULTS = [
    ('deps("app"', -13, 10),
    ("deps(x)", -13, 5),
    ("$x", -15, 0),
    ('""', -12, 0),
    ("", -13, 0),
]


class Example(unittest.TestCase):
    def test_building_answers(self):
        self.assertEqual(ask(*EXAMPLE), [[0], [1], [2], [1], [1], [1]])

    def test_queries(self):
        for text, wanted in QUERIES:
            with self.subTest(text):
                self.assertEqual(ask(*EXAMPLE, query(text))[-1], wanted)

    def test_faults_are_refused(self):
        for text, number, position in FAULTS:
            with self.subTest(text):
                self.assertEqual(ask(*EXAMPLE, query(text))[-1], [number])

    def test_faults_know_their_position(self):
        for text, number, position in FAULTS:
            with self.subTest(text):
                with self.assertRaises(Fault) as caught:
                    read_query(tuple(octets(text)))
                self.assertEqual((caught.exception.number, caught.exception.position), (number, position))


if __name__ == "__main__":
    unittest.main()
