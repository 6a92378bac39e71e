"""The interface: one list in, one list back, nothing changed and nothing kept."""

import contextlib
import io
import unittest

from buildqueries.graph import answers
from tests.helper import cut, edge, far, mark, node, query

CALLS = [
    node("app", "bin"), node("lib"), node("app"), node(""), edge(0, 1), edge(0, 1), edge(0, 7), mark(0, "m", "t"),
    mark(1, "m", ""), mark(5, "m", "t"), query('deps("app")'), query('mark("m", "t", all)'), query("all -"), query("#"),
    query('"x"'), query("$x"), query("(" * 20), query(" " * 1025), far(0, 1), far(1, 0), far(0, 2), cut(1, 0), cut(0, 1),
    query("all - all"), cut(0, 1), cut(9, 9),
]
FLAT = [number for call in CALLS for number in call]
TOLD = [
    1, 0, 1, 1, 1, -2, 1, -1, 1, 1, 1, 0, 1, -4, 1, 0,
    1, -1, 1, -4, 3, 0, 0, 1, 2, 0, 0, 1, -13, 1, -12,
    1, -16, 1, -15, 1, -14, 1, -11, 1, 1, 1, -1, 1, -4, 1, -5, 1, 0,
    1, 0, 1, -5, 1, -4,
]


class Line(unittest.TestCase):
    def test_answers_one_behind_another(self):
        self.assertEqual(answers(list(FLAT)), TOLD)

    def test_numbers_of_the_calls(self):
        line = [0, 1, 97, 1, 107, 0, 1, 98, 1, 107, 1, 0, 1, 3, 0, 1, 109, 1, 116, 4, 3, 97, 108, 108, 9, 0, 1, 2, 0, 1, 9, 0, 1]
        self.assertEqual(answers(line), [1, 0, 1, 1, 1, 1, 1, 0, 3, 0, 0, 1, 1, 1, 1, 0, 1, -1])

    def test_empty_rows(self):
        self.assertEqual(answers([0, 0, 0, 4, 0, 0, 1, 97, 1, 98, 3, 0, 0, 0]), [1, -1, 1, -13, 1, 0, 1, -1])

    def test_what_is_handed_in_is_not_changed(self):
        line = list(FLAT)
        answers(line)
        self.assertEqual(line, FLAT)

    def test_what_is_handed_in_is_not_changed_for_a_while_either(self):
        class Guarded(list):
            def refuse(self, *given):
                raise AssertionError("the list was changed")

            __setitem__ = __delitem__ = __iadd__ = __imul__ = refuse
            append = extend = insert = pop = remove = clear = sort = reverse = refuse

        self.assertEqual(answers(Guarded(FLAT)), TOLD)

    def test_nothing_is_kept(self):
        line = list(FLAT)
        first = answers(line)
        first_copy = list(first)
        answers([number for call in [node("other"), node("app"), edge(0, 1), mark(0, "m", "t")] for number in call])
        second = answers(line)
        self.assertEqual(second, first_copy)
        self.assertEqual(first, first_copy)
        self.assertIsNot(first, second)
        self.assertEqual(answers(query("all")), [1, 0])

    def test_a_changed_answer_changes_no_later_one(self):
        answers(list(FLAT)).clear()
        self.assertEqual(answers(list(FLAT)), TOLD)

    def test_kinds_of_what_is_given_back(self):
        told = answers(list(FLAT))
        self.assertIs(type(told), list)
        for number in told:
            self.assertIs(type(number), int)

    def test_nothing_is_printed(self):
        out = io.StringIO()
        with contextlib.redirect_stdout(out), contextlib.redirect_stderr(out):
            answers(list(FLAT))
        self.assertEqual(out.getvalue(), "")

    def test_a_refused_call_leaves_everything_as_it_was(self):
        before = [node("a", "k"), node("b", "l"), edge(0, 1), mark(0, "m", "t")]
        refused = [
            node("", "k"), node("c", ""), node("a", "x"), edge(0, 2), edge(-1, 0), cut(1, 0), cut(0, 2), cut(2, 0),
            mark(2, "m", "u"), mark(0, "", "u"), mark(0, "m", ""), query("x"), query("#"), query("$x"), query('"c"'),
            query("(" * 21), query("x" * 1025), far(0, 2), far(2, 0),
        ]
        asked = [
            query("all"), query('kind("k", all)'), query('kind("l", all)'), query('mark("m", "t", all)'),
            query('mark("m", "u", all)'), far(0, 1), far(1, 0), far(0, 0), node("c"),
        ]
        wanted = answers([number for call in before + asked for number in call])
        for call in refused:
            with self.subTest(call[:6]):
                told = answers([number for part in before + [call] + asked for number in part])
                # Four calls ahead, each with one number behind its count.
                self.assertEqual(told[:8] + told[10:], wanted)
                self.assertEqual(told[8], 1)
                self.assertLess(told[9], 0)

    def test_400_calls(self):
        calls = [node(f"n{number}") for number in range(64)] + [query("all")] * 336
        told = answers([number for call in calls for number in call])
        self.assertEqual(len(calls), 400)
        # Not assertEqual: to show how lists of this length differ would take it hours.
        self.assertTrue(told[128:] == ([65, 0] + list(range(64))) * 336)


if __name__ == "__main__":
    unittest.main()
