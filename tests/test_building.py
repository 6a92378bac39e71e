"""Promises 1 to 4 and 10: node, edge, cut, mark, far."""

import unittest

from tests.helper import EDGE, FULL, NODE, TEXT, TWICE
from tests.helper import ask, ask_last, cut, edge, edges, far, mark, node, nodes, query

WRONG_TEXTS = [
    b"",
    b"x" * 41,
    b"x" * 100,
    b" ",
    b"a b",
    b'"',
    b'a"',
    b"\x20x",
    b"x\x7f",
    b"x\x00",
    b"\xff",
    b"x\n",
    b"\x80" * 40,
]
RIGHT_TEXTS = [b"!", b"~", b"#", b"x" * 40, b"A9$(),+-&=", b"'`\\"]
NO_NODES = [-1, 2, 63, 64, -64, 10**18, -(10**18)]


class NodeCall(unittest.TestCase):
    def test_numbers_from_zero_on(self):
        self.assertEqual(ask(*nodes(3)), [[0], [1], [2]])

    def test_wrong_name(self):
        for text in WRONG_TEXTS:
            with self.subTest(text):
                self.assertEqual(ask(node(text, "k"), node("a"), query("all")), [[TEXT], [0], [0, 0]])

    def test_wrong_kind(self):
        for text in WRONG_TEXTS:
            with self.subTest(text):
                self.assertEqual(ask(node("a", text), node("a"), query("all")), [[TEXT], [0], [0, 0]])

    def test_right_texts(self):
        for text in RIGHT_TEXTS:
            with self.subTest(text):
                quoted = b'kind("' + text + b'", "' + text + b'")'
                self.assertEqual(ask(node(text, text), query(quoted)), [[0], [0, 0]])

    def test_every_byte(self):
        for byte in range(256):
            right = 33 <= byte <= 126 and byte != 34
            wanted = [0] if right else [TEXT]
            self.assertEqual(ask(node([97, byte], "k")), [wanted], byte)
            self.assertEqual(ask(node("k", [byte, 97])), [wanted], byte)

    def test_twice(self):
        self.assertEqual(ask(node("a"), node("a", "other"), node("b")), [[0], [TWICE], [1]])

    def test_same_kind_and_name_like_a_kind_are_allowed(self):
        self.assertEqual(ask(node("a", "k"), node("k", "k"), node("A", "a")), [[0], [1], [2]])

    def test_refused_twice_keeps_the_first_kind(self):
        calls = [node("a", "k"), node("a", "other")]
        self.assertEqual(ask_last(*calls, query('kind("k", all)')), [0, 0])
        self.assertEqual(ask_last(*calls, query('kind("other", all)')), [0])

    def test_text_counts_before_twice(self):
        self.assertEqual(ask(node("a"), node("a", "")), [[0], [TEXT]])

    def test_full(self):
        told = ask(*nodes(64), node("more"), query('"more"'), query("all"))
        self.assertEqual(told[:64], [[number] for number in range(64)])
        self.assertEqual(told[64:], [[FULL], [-16], [0] + list(range(64))])

    def test_text_and_twice_count_before_full(self):
        told = ask(*nodes(64), node("n63"), node("", "k"), node("more", ""))
        self.assertEqual(told[64:], [[TWICE], [TEXT], [TEXT]])

    def test_refused_calls_use_up_no_number(self):
        self.assertEqual(ask(node("a"), node(""), node("a"), node("b")), [[0], [TEXT], [TWICE], [1]])

    def test_new_node_has_no_edges_and_marks(self):
        told = ask(node("a"), edge(0, 0), mark(0, "m", "t"), node("b"), cut(1, 0), cut(0, 1), cut(1, 1),
                   query('mark("m", "t", all)'))
        self.assertEqual(told[3:], [[1], [EDGE], [EDGE], [EDGE], [0, 0]])


class EdgeCall(unittest.TestCase):
    def test_new_then_there(self):
        self.assertEqual(ask(*nodes(2), *edges((0, 1), (0, 1), (1, 0), (1, 0)))[2:], [[1], [0], [1], [0]])

    def test_answers_are_whole_numbers(self):
        for answer in ask(*nodes(2), *edges((0, 1), (0, 1)), cut(0, 1), far(0, 1)):
            self.assertIs(type(answer[0]), int)

    def test_to_itself(self):
        self.assertEqual(ask(*nodes(1), *edges((0, 0), (0, 0)))[1:], [[1], [0]])

    def test_direction(self):
        calls = nodes(2) + edges((0, 1))
        self.assertEqual(ask_last(*calls, query('deps("n0")')), [0, 0, 1])
        self.assertEqual(ask_last(*calls, query('deps("n1")')), [0, 1])

    def test_wrong_node(self):
        for wrong in NO_NODES:
            for a, b in ((wrong, 0), (0, wrong), (wrong, wrong)):
                with self.subTest((a, b)):
                    self.assertEqual(ask(*nodes(2), edge(a, b), query('deps("n0")'))[2:], [[NODE], [0, 0]])

    def test_without_nodes(self):
        self.assertEqual(ask(edge(0, 0)), [[NODE]])

    def test_last_of_64_nodes(self):
        told = ask(*nodes(64), *edges((63, 0), (0, 63), (63, 63), (64, 63), (63, 64)))
        self.assertEqual(told[64:], [[1], [1], [1], [NODE], [NODE]])


class CutCall(unittest.TestCase):
    def test_cut_and_new_again(self):
        told = ask(*nodes(2), edge(0, 1), cut(0, 1), cut(0, 1), edge(0, 1), edge(0, 1))
        self.assertEqual(told[3:], [[0], [EDGE], [1], [0]])

    def test_cut_leaves_other_edges(self):
        calls = nodes(3) + edges((0, 1), (1, 0), (0, 2), (0, 0))
        told = ask(*calls, cut(0, 1), far(0, 1), far(1, 0), far(0, 2), edge(0, 0), edge(0, 1))
        self.assertEqual(told[7:], [[0], [-1], [1], [1], [0], [1]])

    def test_edge_only_the_other_way(self):
        self.assertEqual(ask(*nodes(2), edge(0, 1), cut(1, 0), far(0, 1))[3:], [[EDGE], [1]])

    def test_edge_to_itself(self):
        self.assertEqual(ask(*nodes(1), edge(0, 0), cut(0, 0), cut(0, 0))[2:], [[0], [EDGE]])

    def test_wrong_node_counts_before_edge(self):
        for wrong in NO_NODES:
            for a, b in ((wrong, 0), (0, wrong), (wrong, wrong)):
                with self.subTest((a, b)):
                    self.assertEqual(ask(*nodes(2), edge(0, 1), cut(a, b), far(0, 1))[3:], [[NODE], [1]])


class MarkCall(unittest.TestCase):
    def marked(self, *calls):
        """Which nodes of two have the mark m with the text t, after these calls."""
        return ask_last(*nodes(2), *calls, query('mark("m", "t", all)'))

    def test_mark(self):
        self.assertEqual(ask(*nodes(1), mark(0, "m", "t"), mark(0, "m", "t"))[1:], [[0], [0]])
        self.assertEqual(self.marked(mark(1, "m", "t")), [0, 1])

    def test_other_name_or_text(self):
        self.assertEqual(self.marked(mark(0, "m", "u"), mark(1, "n", "t")), [0])
        self.assertEqual(self.marked(mark(0, "t", "m")), [0])
        self.assertEqual(self.marked(mark(0, "mm", "t"), mark(1, "m", "tt")), [0])

    def test_in_the_place_of_one_it_had(self):
        self.assertEqual(self.marked(mark(0, "m", "t"), mark(0, "m", "u")), [0])
        self.assertEqual(self.marked(mark(0, "m", "u"), mark(0, "m", "t")), [0, 0])

    def test_several_marks(self):
        self.assertEqual(self.marked(mark(0, "m", "t"), mark(0, "n", "t"), mark(0, "o", "u")), [0, 0])

    def test_wrong_node_counts_first(self):
        for wrong in NO_NODES:
            for name, text in (("m", "t"), ("", "t"), ("m", ""), ("", "")):
                with self.subTest((wrong, name, text)):
                    told = ask(*nodes(2), mark(wrong, name, text), query('mark("m", "t", all)'))
                    self.assertEqual(told[2:], [[NODE], [0]])

    def test_wrong_texts(self):
        for wrong in WRONG_TEXTS:
            with self.subTest(wrong):
                told = ask(*nodes(1), mark(0, "m", "t"), mark(0, wrong, "t"), mark(0, "m", wrong),
                           query('mark("m", "t", all)'))
                self.assertEqual(told[2:], [[TEXT], [TEXT], [0, 0]])

    def test_right_texts(self):
        for right in RIGHT_TEXTS:
            with self.subTest(right):
                text = b'mark("' + right + b'", "' + right + b'", all)'
                self.assertEqual(ask(*nodes(1), mark(0, right, right), query(text))[1:], [[0], [0, 0]])

    def test_full(self):
        eight = [mark(0, f"m{number}", "t") for number in range(8)]
        told = ask(*nodes(2), *eight, mark(0, "m8", "t"), mark(0, "m7", "u"), mark(1, "m8", "t"),
                   query('mark("m8", "t", all)'), query('mark("m7", "u", all)'), query('mark("m0", "t", all)'))
        self.assertEqual(told[2:], [[0]] * 8 + [[FULL], [0], [0], [0, 1], [0, 0], [0, 0]])

    def test_text_counts_before_full(self):
        eight = [mark(0, f"m{number}", "t") for number in range(8)]
        self.assertEqual(ask(*nodes(1), *eight, mark(0, "", "t"), mark(0, "m8", ""))[9:], [[TEXT], [TEXT]])


class FarCall(unittest.TestCase):
    def test_to_itself(self):
        self.assertEqual(ask(*nodes(1), far(0, 0), edge(0, 0), far(0, 0))[1:], [[0], [1], [0]])

    def test_no_path(self):
        self.assertEqual(ask(*nodes(2), edge(0, 1), far(1, 0), far(0, 1))[3:], [[-1], [1]])

    def test_shortest_of_several(self):
        calls = nodes(5) + edges((0, 1), (1, 2), (2, 3), (3, 4), (0, 3), (4, 0))
        self.assertEqual(ask_last(*calls, far(0, 4)), [2])
        self.assertEqual(ask_last(*calls, far(1, 0)), [4])

    def test_circle(self):
        calls = nodes(3) + edges((0, 1), (1, 0))
        self.assertEqual(ask(*calls, far(0, 1), far(1, 0), far(0, 2))[5:], [[1], [1], [-1]])

    def test_to_itself_in_a_circle(self):
        calls = nodes(3) + edges((0, 1), (1, 2), (2, 0), (1, 1))
        self.assertEqual(ask(*calls, far(0, 0), far(1, 1), far(2, 2))[7:], [[0], [0], [0]])

    def test_around_a_circle(self):
        calls = nodes(4) + edges((0, 1), (1, 2), (2, 3), (3, 0))
        self.assertEqual(ask(*calls, far(0, 3), far(3, 0), far(3, 2), far(1, 3))[8:], [[3], [1], [3], [2]])

    def test_a_circle_that_is_not_reached(self):
        calls = nodes(4) + edges((0, 1), (1, 0), (2, 2))
        self.assertEqual(ask(*calls, far(3, 0), far(2, 0), far(3, 2))[7:], [[-1], [-1], [-1]])

    def test_longest(self):
        chain = edges(*[(number, number + 1) for number in range(63)])
        self.assertEqual(ask(*nodes(64), *chain, far(0, 63), far(63, 0))[-2:], [[63], [-1]])

    def test_wrong_node(self):
        for wrong in NO_NODES:
            for a, b in ((wrong, 0), (0, wrong), (wrong, wrong)):
                with self.subTest((a, b)):
                    self.assertEqual(ask_last(*nodes(2), edge(0, 1), far(a, b)), [NODE])

    def test_without_nodes(self):
        self.assertEqual(ask(far(0, 0)), [[NODE]])

    def test_follows_edge_and_cut(self):
        told = ask(*nodes(3), far(0, 2), *edges((0, 1), (1, 2)), far(0, 2), edge(0, 2), far(0, 2), cut(0, 2), cut(1, 2), far(0, 2))
        self.assertEqual(told[3:], [[-1], [1], [1], [2], [1], [1], [0], [0], [-1]])


if __name__ == "__main__":
    unittest.main()
