"""The document's own example."""

import unittest

from tests.helper import ask, edge, node, query, where

EXAMPLE = [
    node("app", "bin"),
    node("lib", "bin"),
    node("util", "lib"),
    edge(0, 1),
    edge(1, 2),
    edge(0, 2),
]

QUERIES = [
    ('deps("app")', [0, 0, 1, 2]),
    ('deps("app", 0)', [0, 0]),
    ('needers(all, "util", 1)', [0, 0, 1, 2]),
    ('somepath("app", "util")', [0, 0, 2]),
    ('allpaths("app", "util") - "util"', [0, 0, 1]),
    ('kind("bin", all) & deps("lib")', [0, 1]),
    ("leaves(all)", [0, 2]),
    ('let $x = deps("lib") in roots($x)', [0, 1]),
]

FAULTS = [
    ('deps("app"', 3, 10),
    ("deps(x)", 3, 5),
    ("$x", 5, 0),
    ('""', 2, 0),
    ("", 3, 0),
]


class Example(unittest.TestCase):
    def test_building_answers(self):
        self.assertEqual(ask(*EXAMPLE), [[0], [1], [2], [1], [1], [1]])

    def test_queries(self):
        for text, wanted in QUERIES:
            with self.subTest(text):
                self.assertEqual(ask(*EXAMPLE, query(text))[-1], wanted)

    def test_where(self):
        for text, number, position in FAULTS:
            with self.subTest(text):
                self.assertEqual(ask(*EXAMPLE, where(text))[-1], [number, position])

    def test_where_of_the_queries(self):
        for text, wanted in QUERIES:
            with self.subTest(text):
                self.assertEqual(ask(*EXAMPLE, where(text))[-1], [0, 0])

    def test_faults_are_refused(self):
        for text, number, position in FAULTS:
            with self.subTest(text):
                self.assertEqual(ask(*EXAMPLE, query(text))[-1], [-10 - number])

    def test_all_in_one_line(self):
        asked = [query(text) for text, wanted in QUERIES] + [where(text) for text, number, position in FAULTS]
        wanted = [told for text, told in QUERIES] + [[number, position] for text, number, position in FAULTS]
        self.assertEqual(ask(*EXAMPLE, *asked)[len(EXAMPLE):], wanted)


if __name__ == "__main__":
    unittest.main()
