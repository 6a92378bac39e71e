"""Promise 5, the meaning: each form of the language, one by one and nested."""

import unittest

from tests.helper import UNKNOWN
from tests.helper import ask, ask_last, cut, edge, edges, mark, node, nodes, query


class Meaning(unittest.TestCase):
    def means(self, calls, *cases):
        for text, wanted in cases:
            with self.subTest(text):
                self.assertEqual(ask_last(*calls, query(text)), [0] + wanted)


class Sets(Meaning):
    def test_no_nodes(self):
        self.means([], ("all", []), ("deps(all)", []), ("first(all)", []), ("somepath(all, all)", []),
                   ("leaves(all) + roots(all)", []), ("needers(all, all, 1)", []), ("let $x = all in $x", []))

    def test_quoted_text(self):
        self.means(nodes(12), ('"n0"', [0]), ('"n11"', [11]), ('("n1")', [1]))

    def test_names_are_whole_and_exact(self):
        self.means([node("x"), node("xx"), node("X")], ('"x"', [0]), ('"xx"', [1]), ('"X"', [2]))

    def test_a_name_of_40_bytes(self):
        name = "y" * 40
        self.means([node("y" * 39), node(name)], (f'"{name}"', [1]))

    def test_all_in_order_of_size(self):
        self.means(nodes(64), ("all", list(range(64))), ('"n63" + "n5" + "n20"', [5, 20, 63]))

    def test_signs(self):
        self.means(nodes(3), ('"n0" + "n2"', [0, 2]), ('"n0" + "n0"', [0]), ('all - "n1"', [0, 2]), ('"n1" - all', []),
                   ('"n0" - "n1"', [0]), ('all & "n1"', [1]), ('"n0" & "n1"', []))

    def test_from_the_left_to_the_right(self):
        self.means(nodes(3), ('"n0" + "n1" & "n1"', [1]), ('"n0" + ("n1" & "n1")', [0, 1]), ("all - all + all", [0, 1, 2]),
                   ("all - (all + all)", []), ('all - "n0" - "n1"', [2]), ('all - ("n0" - "n1")', [1, 2]),
                   ('"n0" & "n1" + "n2"', [2]), ('"n0" & ("n1" + "n2")', []), ('all & "n1" - "n1" + "n2"', [2]))

    def test_let(self):
        self.means(nodes(3), ('let $x = "n1" in $x', [1]), ('let $x = "n1" in all - $x', [0, 2]), ('let $x = "n1" in "n2"', [2]),
                   ('let $x = "n0" in let $y = "n1" in $x + $y', [0, 1]))

    def test_the_nearest_let_counts(self):
        self.means(nodes(3), ('let $x = "n0" in let $x = "n1" in $x', [1]), ('let $x = "n0" in let $x = $x + "n1" in $x', [0, 1]),
                   ('let $x = "n0" in (let $x = "n1" in $x) + $x', [0, 1]), ('let $x = "n0" in $x - (let $x = "n1" in $x)', [0]),
                   ('let $x = let $x = "n2" in $x in $x', [2]), ('let $x = "n0" in (let $y = "n1" in $y) + $x', [0, 1]))

    def test_a_variable_keeps_what_it_was_given(self):
        text = 'let $x = "n0" in let $y = $x in let $x = "n2" in $x + $y'
        self.means(nodes(3), (text, [0, 2]))

    def test_let_body_reaches_as_far_as_it_can(self):
        self.means(nodes(3), ('let $x = "n0" in $x + "n1" - $x', [1]), ('(let $x = "n0" in $x) + "n1" - "n0"', [1]))


class Unknown(Meaning):
    def test_unknown(self):
        calls = [node("a", "k"), mark(0, "m", "t")]
        for text in ('"k"', '"m"', '"t"', '"A"', '"aa"', '"a" + "b"', '"b" & "a"', 'all - "b"', 'deps("b")', 'deps("b", 0)',
                     'needers("b", all)', 'needers(all, "b")', 'somepath("b", "a")', 'allpaths("a", "b")', 'kind("k", "b")',
                     'filter("a", "b")', 'mark("m", "t", "b")', 'leaves("b")', 'roots("b")', 'first("b")', 'first("a" + "b")',
                     'let $x = "b" in all', 'let $x = all in "b"', '(all - all) & "b"', 'first(all) - "b" + all'):
            with self.subTest(text):
                self.assertEqual(ask_last(*calls, query(text)), [UNKNOWN])

    def test_other_quoted_texts_are_no_names(self):
        self.means([node("a", "k")], ('kind("b", "a")', []), ('filter("b", "a")', []), ('mark("b", "c", "a")', []))

    def test_a_refused_query_changes_nothing(self):
        told = ask(node("a"), query('"b"'), query("$x"), query("all"), node("b"), query('"b"'))
        self.assertEqual(told, [[0], [UNKNOWN], [-15], [0, 0], [1], [0, 1]])


CHAIN = nodes(5) + edges((0, 1), (1, 2), (2, 3), (3, 4))
# 0 and 1 need one another, 1 needs 2, 2 needs itself, 3 needs 2; 4 stands alone.
CIRCLES = nodes(5) + edges((0, 1), (1, 0), (1, 2), (2, 2), (3, 2))


class Reached(Meaning):
    def test_deps(self):
        self.means(CHAIN, ('deps("n0")', [0, 1, 2, 3, 4]), ('deps("n3")', [3, 4]), ('deps("n4")', [4]), ("deps(all - all)", []),
                   ('deps("n1" + "n3")', [1, 2, 3, 4]))
        self.means(CIRCLES, ('deps("n0")', [0, 1, 2]), ('deps("n2")', [2]), ('deps("n3")', [2, 3]), ('deps("n4")', [4]))

    def test_deps_within(self):
        self.means(CHAIN, ('deps("n0", 0)', [0]), ('deps("n0", 1)', [0, 1]), ('deps("n0", 3)', [0, 1, 2, 3]),
                   ('deps("n0", 4)', [0, 1, 2, 3, 4]), ('deps("n0", 99)', [0, 1, 2, 3, 4]), ('deps("n0" + "n3", 1)', [0, 1, 3, 4]),
                   ("deps(all - all, 5)", []), ('deps("n2" + "n0", 0)', [0, 2]))
        self.means(CIRCLES, ('deps("n0", 2)', [0, 1, 2]), ('deps("n1", 1)', [0, 1, 2]))

    def test_deps_through_64_nodes(self):
        chain = nodes(64) + edges(*[(number, number + 1) for number in range(63)])
        self.means(chain, ('deps("n0", 62)', list(range(63))), ('deps("n0", 63)', list(range(64))), ('deps("n0")', list(range(64))),
                   ('needers(all, "n63", 62)', list(range(1, 64))), ('needers(all, "n63")', list(range(64))))

    def test_needers(self):
        self.means(CHAIN, ('needers(all, "n2")', [0, 1, 2]), ('needers("n1", "n3")', [1, 2, 3]), ('needers("n3", "n1")', []),
                   ('needers(all, "n0")', [0]), ("needers(all, all - all)", []), ("needers(all - all, all)", []),
                   ('needers("n1", "n1")', [1]))
        self.means(CIRCLES, ('needers("n0", "n2")', [0, 1, 2]), ('needers(all, "n2")', [0, 1, 2, 3]), ('needers("n4", "n2")', []))

    def test_needers_within(self):
        self.means(CHAIN, ('needers(all, "n3", 0)', [3]), ('needers(all, "n3", 1)', [2, 3]), ('needers("n0", "n3", 2)', [1, 2, 3]),
                   ('needers("n0", "n3", 3)', [0, 1, 2, 3]), ('needers("n3", "n0", 9)', []), ('needers(all, "n1" + "n4", 1)', [0, 1, 3, 4]))

    def test_the_number_does_not_bound_what_is_reached_from_the_first(self):
        self.means(CHAIN, ('needers("n0", "n4", 1)', [3, 4]), ('needers("n0", "n4", 0)', [4]))

    def test_allpaths(self):
        fork = nodes(6) + edges((0, 1), (1, 3), (0, 2), (2, 3), (3, 4), (5, 3))
        self.means(fork, ('allpaths("n0", "n3")', [0, 1, 2, 3]), ('allpaths("n0", "n4")', [0, 1, 2, 3, 4]), ('allpaths("n4", "n0")', []),
                   ('allpaths("n1" + "n5", "n3")', [1, 3, 5]), ('allpaths("n0", "n2" + "n1")', [0, 1, 2]), ('allpaths("n2", "n2")', [2]),
                   ("allpaths(all - all, all)", []), ("allpaths(all, all - all)", []))
        self.means(CIRCLES, ('allpaths("n0", "n0")', [0, 1]), ('allpaths("n1", "n2")', [0, 1, 2]))

    def test_cut_counts(self):
        self.means(CHAIN + [cut(1, 2)], ('deps("n0")', [0, 1]), ('allpaths("n0", "n4")', []), ('somepath("n0", "n4")', []))


class SomePath(Meaning):
    def test_none(self):
        self.means(CHAIN, ('somepath("n4", "n0")', []), ("somepath(all - all, all)", []), ("somepath(all, all - all)", []))

    def test_none_to_a_circle(self):
        self.means(CIRCLES, ('somepath("n4", "n2")', []), ('somepath("n2" + "n4", "n0")', []))

    def test_length_0(self):
        self.means(CHAIN, ('somepath("n2", "n2")', [2]), ("somepath(all, all)", [0]), ('somepath("n1" + "n3", "n3" + "n4")', [3]),
                   ('somepath("n4" + "n2", "n2" + "n4")', [2]))
        self.means(CIRCLES, ('somepath("n0", "n0")', [0]), ('somepath("n2", "n2")', [2]))

    def test_the_shortest(self):
        calls = nodes(5) + edges((0, 1), (1, 2), (2, 4), (0, 3), (3, 4))
        self.means(calls, ('somepath("n0", "n4")', [0, 3, 4]))
        self.means(CHAIN, ('somepath("n0" + "n1", "n3" + "n4")', [1, 2, 3]), ('somepath("n0", all - "n0")', [0, 1]))

    def test_smallest_first_node(self):
        calls = nodes(6) + edges((1, 5), (5, 3), (2, 4), (4, 3))
        self.means(calls, ('somepath("n1" + "n2", "n3")', [1, 3, 5]))

    def test_smallest_second_node(self):
        calls = nodes(6) + edges((0, 2), (2, 5), (0, 3), (3, 4), (2, 1))
        self.means(calls, ('somepath("n0", "n4" + "n5")', [0, 2, 5]))

    def test_smallest_node_that_leads_on(self):
        calls = nodes(6) + edges((0, 1), (0, 3), (0, 4), (3, 5), (4, 5), (1, 2))
        self.means(calls, ('somepath("n0", "n5")', [0, 3, 5]))

    def test_smallest_last_node(self):
        calls = nodes(5) + edges((0, 1), (1, 4), (1, 3))
        self.means(calls, ('somepath("n0", "n3" + "n4")', [0, 1, 3]))

    def test_a_shorter_way_counts_before_smaller_numbers(self):
        calls = nodes(5) + edges((0, 1), (1, 3), (4, 3))
        self.means(calls, ('somepath("n0" + "n4", "n3")', [3, 4]))

    def test_edges_to_itself_do_not_matter(self):
        self.means(CHAIN + edges((0, 0), (1, 1)), ('somepath("n0", "n2")', [0, 1, 2]))


class Picked(Meaning):
    def setUp(self):
        self.calls = [node("core/base", "lib"), node("core/test", "test"), node("base", "lib2"), node("b", "lib"),
                      mark(0, "lang", "c"), mark(1, "lang", "py"), mark(2, "lang", "c"), mark(2, "size", "big"), mark(3, "c", "lang")]

    def test_kind(self):
        self.means(self.calls, ('kind("lib", all)', [0, 3]), ('kind("lib2", all)', [2]), ('kind("li", all)', []),
                   ('kind("lib", "b")', [3]), ('kind("test", "b")', []), ('kind("lib", all - all)', []), ('kind("LIB", all)', []))

    def test_filter(self):
        self.means(self.calls, ('filter("base", all)', [0, 2]), ('filter("b", all)', [0, 2, 3]), ('filter("core/", all)', [0, 1]),
                   ('filter("core/base", all)', [0]), ('filter("core/basement", all)', []), ('filter("e/t", all)', [1]),
                   ('filter("ore", "base")', []), ('filter("st", all)', [1]), ('filter("lib", all)', []), ('filter("B", all)', []),
                   ('filter("bs", all)', []))

    def test_filter_finds_what_begins_twice(self):
        self.means([node("aab"), node("aba")], ('filter("ab", all)', [0, 1]), ('filter("aab", all)', [0]), ('filter(".", all)', []))

    def test_mark(self):
        self.means(self.calls, ('mark("lang", "c", all)', [0, 2]), ('mark("lang", "py", all)', [1]), ('mark("size", "big", all)', [2]),
                   ('mark("size", "c", all)', []), ('mark("c", "lang", all)', [3]), ('mark("lang", "c", "base")', [2]),
                   ('mark("lan", "c", all)', []), ('mark("none", "c", all)', []), ('mark("lang", "p", all)', []))


class Ends(Meaning):
    def test_leaves(self):
        self.means(CHAIN, ("leaves(all)", [4]), ('leaves("n0" + "n1")', [1]), ('leaves("n0" + "n2")', [0, 2]), ("leaves(all - all)", []),
                   ('leaves("n1")', [1]))
        self.means(CIRCLES, ("leaves(all)", [2, 4]), ('leaves("n0" + "n1")', []), ('leaves("n0" + "n3")', [0, 3]), ('leaves("n2")', [2]))

    def test_roots(self):
        self.means(CHAIN, ("roots(all)", [0]), ('roots("n3" + "n4")', [3]), ('roots("n0" + "n2")', [0, 2]), ("roots(all - all)", []))
        self.means(CIRCLES, ("roots(all)", [3, 4]), ('roots("n0" + "n1")', []), ('roots("n2" + "n3")', [3]), ('roots("n2")', [2]),
                   ('roots("n1" + "n2")', [1]))

    def test_an_edge_to_itself_and_another(self):
        calls = nodes(2) + edges((0, 0), (0, 1), (1, 1))
        self.means(calls, ("leaves(all)", [1]), ("roots(all)", [0]))

    def test_first(self):
        self.means(CHAIN, ("first(all)", [0]), ('first(all - "n0")', [1]), ('first("n4" + "n2")', [2]), ("first(all - all)", []),
                   ('first(deps("n3"))', [3]))
        self.means(nodes(64), ('first("n63")', [63]), ('first("n63" + "n62")', [62]))


class Nested(Meaning):
    def test_nested(self):
        self.means(CHAIN + [mark(2, "m", "t")],
                   ('leaves(deps("n0") - deps("n3"))', [2]),
                   ('deps(first(mark("m", "t", all)), 1)', [2, 3]),
                   ('roots(deps("n1") & needers(all, "n3", 1))', [2]),
                   ('let $low = deps("n2") in let $high = all - $low in somepath($high, $low)', [1, 2]),
                   ('allpaths(somepath("n0", "n1"), filter("3", all)) - first(all)', [1, 2, 3]),
                   ('kind("lib", let $x = "n4" in $x + (let $x = "n1" in deps($x, 1)))', [1, 2, 4]))


class Order(Meaning):
    def test_a_query_sees_what_came_before_it(self):
        told = ask(node("a"), query("all"), node("b"), query("deps(all)"), edge(0, 1), query('deps("a")'), cut(0, 1), query('deps("a")'))
        self.assertEqual(told, [[0], [0, 0], [1], [0, 0, 1], [1], [0, 0, 1], [0], [0, 0]])


if __name__ == "__main__":
    unittest.main()
