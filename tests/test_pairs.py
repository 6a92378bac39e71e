"""Promises 8 and 9: path and alike, and the order of their refusals."""

import unittest

from tests.helper import DEEP, LONG, SYNTAX, TOKEN, UNKNOWN, VARIABLE
from tests.helper import alike, ask, ask_last, cut, edges, mark, node, nodes, path, query

FAULTS = [
    (LONG, "all" + " " * 1022),
    (TOKEN, "all #"),
    (SYNTAX, "all +"),
    (DEEP, "(" * 20 + "all" + ")" * 20),
    (VARIABLE, "all + $x"),
]
UNKNOWNS = ['"nope"', 'all + deps("nope")', 'let $x = "nope" in all', '(all - all) & "nope"', "first(all) - \"other\""]
CHAIN = nodes(5) + edges((0, 1), (1, 2), (2, 3), (3, 4))


class Refusals(unittest.TestCase):
    def refuses(self, number, a, b):
        for call in (path, alike):
            with self.subTest((call.__name__, a[:30], b[:30])):
                self.assertEqual(ask(*nodes(2), call(a, b), query("all"))[2:], [[number], [0, 0, 1]])

    def test_a_alone(self):
        for number, text in FAULTS:
            self.refuses(number, text, "all")

    def test_b_alone(self):
        for number, text in FAULTS:
            self.refuses(number - 10, "all", text)

    def test_the_numbers_as_written(self):
        for number, position in ((-21, 0), (-22, 1), (-23, 2), (-24, 3), (-25, 4)):
            self.refuses(number, "all", FAULTS[position][1])
        self.refuses(-16, '"nope"', "all")
        self.refuses(-26, "all", '"nope"')

    def test_a_fault_of_a_and_of_b(self):
        for number, a in FAULTS:
            for other, b in FAULTS:
                self.refuses(number, a, b)

    def test_a_fault_of_a_with_unknown_of_b(self):
        for number, text in FAULTS:
            self.refuses(number, text, '"nope"')

    def test_unknown_of_a_with_a_fault_of_b(self):
        for number, text in FAULTS:
            self.refuses(number - 10, '"nope"', text)

    def test_unknown_of_a(self):
        for text in UNKNOWNS:
            self.refuses(UNKNOWN, text, "all")
            self.refuses(UNKNOWN, text, "all - all")

    def test_unknown_of_b(self):
        for text in UNKNOWNS:
            self.refuses(UNKNOWN - 10, "all", text)
            self.refuses(UNKNOWN - 10, "all - all", text)

    def test_unknown_of_both(self):
        for a in UNKNOWNS:
            for b in UNKNOWNS:
                self.refuses(UNKNOWN, a, b)

    def test_unknown_with_a_fault_in_one_text(self):
        self.refuses(SYNTAX, '"nope" +', "all")
        self.refuses(SYNTAX - 10, "all", '"nope" +')
        self.refuses(VARIABLE - 10, '"nope"', '"nope" + $x')

    def test_empty_texts(self):
        self.refuses(SYNTAX, "", "")
        self.refuses(SYNTAX, "", "all")
        self.refuses(SYNTAX - 10, "all", "")

    def test_variables_of_a_are_not_known_in_b(self):
        self.refuses(VARIABLE - 10, "let $x = all in $x", "$x")

    def test_long_texts_are_passed_over_whole(self):
        self.refuses(LONG, " " * 2000, " " * 2000)
        self.refuses(LONG - 10, "all" + " " * 1021, " " * 2000)
        self.refuses(SYNTAX, " " * 1024, " " * 1025)


class Path(unittest.TestCase):
    def goes(self, calls, *cases):
        for a, b, wanted in cases:
            with self.subTest((a, b)):
                self.assertEqual(ask_last(*calls, path(a, b)), [0] + wanted)

    def test_no_node(self):
        self.goes([], ("all", "all", []))
        self.goes(CHAIN, ('"n4"', '"n0"', []), ("all - all", "all", []), ("all", "all - all", []), ("all - all", "all - all", []),
                  ('"n3" + "n4"', '"n0" + "n2"', []))

    def test_one_node(self):
        self.goes(CHAIN, ('"n2"', '"n2"', [2]), ("all", "all", [0]), ('"n1" + "n3"', '"n3" + "n4"', [3]), ('"n4" + "n2"', "all", [2]))
        self.goes(CHAIN + edges((2, 2), (3, 2)), ('"n2"', '"n2"', [2]), ('"n3" + "n2"', '"n3" + "n2"', [2]))

    def test_several_nodes(self):
        self.goes(CHAIN, ('"n0"', '"n1"', [0, 1]), ('"n0"', '"n4"', [0, 1, 2, 3, 4]), ('"n0" + "n1"', '"n3" + "n4"', [1, 2, 3]),
                  ("roots(all)", "leaves(all)", [0, 1, 2, 3, 4]))

    def test_in_its_own_order(self):
        calls = nodes(5) + edges((4, 1), (1, 3), (3, 0), (0, 2))
        self.goes(calls, ('"n4"', '"n2"', [4, 1, 3, 0, 2]), ('"n1"', '"n0"', [1, 3, 0]), ('"n3"', '"n0"', [3, 0]))

    def test_the_shortest(self):
        calls = nodes(5) + edges((0, 1), (1, 2), (2, 4), (0, 3), (3, 4), (4, 0))
        self.goes(calls, ('"n0"', '"n4"', [0, 3, 4]), ('"n1"', '"n0"', [1, 2, 4, 0]), ('"n0" + "n2"', '"n4"', [2, 4]))

    def test_smallest_first_node(self):
        calls = nodes(6) + edges((1, 5), (5, 3), (2, 4), (4, 3))
        self.goes(calls, ('"n1" + "n2"', '"n3"', [1, 5, 3]), ('"n2" + "n1"', '"n3"', [1, 5, 3]))

    def test_smallest_second_node(self):
        calls = nodes(6) + edges((0, 3), (3, 4), (0, 2), (2, 5), (2, 1))
        self.goes(calls, ('"n0"', '"n4" + "n5"', [0, 2, 5]))

    def test_smallest_third_node(self):
        calls = nodes(6) + edges((0, 1), (1, 4), (1, 3), (4, 5), (3, 5))
        self.goes(calls, ('"n0"', '"n5"', [0, 1, 3, 5]))

    def test_smallest_last_node(self):
        calls = nodes(5) + edges((0, 1), (1, 4), (1, 3))
        self.goes(calls, ('"n0"', '"n4" + "n3"', [0, 1, 3]))

    def test_a_smaller_node_that_leads_on_too_late(self):
        calls = nodes(6) + edges((0, 1), (1, 2), (2, 5), (0, 3), (0, 4), (3, 5), (4, 5))
        self.goes(calls, ('"n0"', '"n5"', [0, 3, 5]))

    def test_shorter_counts_before_smaller(self):
        calls = nodes(5) + edges((0, 1), (1, 3), (4, 3))
        self.goes(calls, ('"n0" + "n4"', '"n3"', [4, 3]))

    def test_out_of_what_a_means_and_into_what_b_means(self):
        calls = nodes(4) + edges((0, 1), (1, 2), (2, 3))
        self.goes(calls, ('"n0" + "n1"', '"n2" + "n3"', [1, 2]))

    def test_circles(self):
        calls = nodes(4) + edges((0, 1), (1, 2), (2, 0), (3, 3))
        self.goes(calls, ('"n0"', '"n2"', [0, 1, 2]), ('"n2"', '"n1"', [2, 0, 1]), ('"n0"', '"n3"', []), ('"n3"', '"n0"', []))

    def test_through_64_nodes(self):
        chain = nodes(64) + edges(*[(number + 1, number) for number in range(63)])
        self.goes(chain, ('"n63"', '"n0"', list(range(63, -1, -1))), ('"n0"', '"n63"', []))

    def test_by_queries_of_every_sort(self):
        calls = [node("app", "bin"), node("lib"), node("util"), mark(2, "m", "t")] + edges((0, 1), (1, 2))
        self.goes(calls, ('kind("bin", all)', 'mark("m", "t", all)', [0, 1, 2]), ('let $x = all in first($x)', 'filter("ut", all)', [0, 1, 2]),
                  ('deps("lib") - "util"', 'all - deps("app", 1)', [1, 2]), (' ( "app" ) ', '"lib"' + " " * 1019, [0, 1]))

    def test_the_nodes_are_those_of_somepath(self):
        calls = nodes(6) + edges((5, 0), (5, 3), (0, 4), (3, 1), (4, 1))
        told = ask(*calls, path('"n5"', '"n1"'), query('somepath("n5", "n1")'))
        self.assertEqual(told[-2:], [[0, 5, 3, 1], [0, 1, 3, 5]])

    def test_follows_cut(self):
        self.goes(CHAIN + edges((0, 4)), ('"n0"', '"n4"', [0, 4]))
        self.goes(CHAIN + edges((0, 4)) + [cut(0, 4)], ('"n0"', '"n4"', [0, 1, 2, 3, 4]))
        self.goes(CHAIN + [cut(2, 3)], ('"n0"', '"n4"', []))


class Alike(unittest.TestCase):
    def answers(self, wanted, calls, *cases):
        for a, b in cases:
            with self.subTest((a, b)):
                self.assertEqual(ask_last(*calls, alike(a, b)), [wanted])
                self.assertEqual(ask_last(*calls, alike(b, a)), [wanted])
                self.assertIs(type(ask_last(*calls, alike(a, b))[0]), int)

    def test_equal_by_different_queries(self):
        self.answers(1, CHAIN, ("all", "all"), ("all", 'deps("n0")'), ('"n0"', "first(all)"), ('"n0" + "n1"', '"n1" + "n0"'),
                     ('"n4"', "leaves(all)"), ('needers(all, "n1")', 'deps("n0", 1)'), ('somepath("n1", "n3")', 'allpaths("n1", "n3")'),
                     ("let $x = all in $x", 'filter("n", (all))'), ('"n2"', ' ( "n2" ) '), ('"n2" + "n2"', '"n2"'))

    def test_empty_sets(self):
        self.answers(1, [], ("all", "all"), ("all", "deps(all)"), ("all - all", "first(all)"))
        self.answers(1, CHAIN, ("all - all", '"n0" & "n1"'), ('somepath("n4", "n0")', 'kind("nope", all)'))
        self.answers(0, CHAIN, ("all - all", '"n0"'), ("all - all", "all"))

    def test_one_holds_the_other(self):
        self.answers(0, CHAIN, ("all", '"n0"'), ("all", 'all - "n4"'), ('deps("n0", 1)', 'deps("n0", 2)'), ('"n0" + "n1"', '"n1"'))

    def test_others(self):
        self.answers(0, CHAIN, ('"n0"', '"n1"'), ('"n0" + "n1"', '"n1" + "n2"'), ("leaves(all)", "roots(all)"))

    def test_the_last_of_64_nodes(self):
        self.answers(0, nodes(64), ("all", 'all - "n63"'), ('"n63"', '"n62"'), ('"n63"', "all - all"))
        self.answers(1, nodes(64), ("all", 'all - "n63" + "n63"'))

    def test_variables_are_of_one_query_each(self):
        self.answers(0, CHAIN, ('let $x = "n0" in $x', 'let $x = "n1" in $x'))
        self.answers(1, CHAIN, ('let $x = "n0" in $x', 'let $y = "n0" in $y'))

    def test_follows_the_graph(self):
        told = ask(*nodes(2), alike("all", 'deps("n0")'), *edges((0, 1)), alike("all", 'deps("n0")'), cut(0, 1), alike("all", 'deps("n0")'))
        self.assertEqual(told[2:], [[0], [1], [1], [0], [0]])


if __name__ == "__main__":
    unittest.main()
