"""The interface: one list in, one list back, nothing changed and nothing kept."""

import contextlib
import io
import unittest
from unittest import mock

from buildqueries.graph import answers
from tests.helper import alike, ask, cut, edge, far, mark, node, octets, path, plain, query, where

# Calls of all ten sorts, each with what it answers.
LINE = [
    (where('"app"'), [0, 0]),
    (path("all", "all"), [0]),
    (alike("all", "all - all"), [1]),
    (node("app", "bin"), [0]),
    (node("lib"), [1]),
    (node("app"), [-2]),
    (node(""), [-1]),
    (edge(0, 1), [1]),
    (edge(0, 1), [0]),
    (edge(0, 7), [-4]),
    (mark(0, "m", "t"), [0]),
    (mark(1, "m", ""), [-1]),
    (mark(5, "m", "t"), [-4]),
    (query('deps("app")'), [0, 0, 1]),
    (plain('(deps(("app"),1))'), [0] + octets('deps("app", 1)')),
    (query('mark("m", "t", all)'), [0, 0]),
    (query("all -"), [-13]),
    (where("all -"), [3, 5]),
    (plain("all -"), [-13]),
    (query("#"), [-12]),
    (where("all #"), [2, 4]),
    (query('"x"'), [-16]),
    (where('"x"'), [0, 0]),
    (plain('"x"'), [0, 34, 120, 34]),
    (query("$x"), [-15]),
    (where(" $x"), [5, 1]),
    (query("(" * 20), [-14]),
    (where("(" * 20), [4, 20]),
    (query(" " * 1025), [-11]),
    (where(" " * 1025), [1, 0]),
    (path('"app"', '"lib"'), [0, 0, 1]),
    (path('"lib"', '"app"'), [0]),
    (path('"x"', "#"), [-22]),
    (path('"x"', '"y"'), [-16]),
    (path("all", '"y"'), [-26]),
    (alike("all", 'deps("app")'), [1]),
    (alike("all", '"lib"'), [0]),
    (alike("$x", "#"), [-15]),
    (alike("all", "all +"), [-23]),
    (far(0, 1), [1]),
    (far(1, 0), [-1]),
    (far(0, 2), [-4]),
    (cut(1, 0), [-5]),
    (cut(0, 1), [0]),
    (path('"app"', '"lib"'), [0]),
    (alike("all", 'deps("app")'), [0]),
    (far(0, 1), [-1]),
    (query("all - all"), [0]),
    (cut(0, 1), [-5]),
    (cut(9, 9), [-4]),
]


def flat(calls):
    return [number for call in calls for number in call]


def counted(told):
    return [number for row in told for number in [len(row)] + row]


FLAT = flat([call for call, told in LINE])
TOLD = counted([told for call, told in LINE])


class Line(unittest.TestCase):
    def test_all_ten_sorts_are_there(self):
        self.assertEqual({call[0] for call, told in LINE}, set(range(10)))
        self.assertLessEqual(len(FLAT), 16000)

    def test_answers_one_behind_another(self):
        self.assertEqual(answers(list(FLAT)), TOLD)

    def test_call_by_call(self):
        self.assertEqual(ask(*[call for call, told in LINE]), [told for call, told in LINE])

    def test_numbers_of_the_calls(self):
        line = [0, 1, 97, 1, 107, 0, 1, 98, 1, 107, 1, 0, 1, 3, 0, 1, 109, 1, 116, 4, 3, 97, 108, 108, 9, 0, 1, 2, 0, 1, 9, 0, 1]
        self.assertEqual(answers(line), [1, 0, 1, 1, 1, 1, 1, 0, 3, 0, 0, 1, 1, 1, 1, 0, 1, -1])
        line = [0, 1, 97, 1, 107, 5, 1, 41, 6, 5, 40, 97, 108, 108, 41, 7, 3, 97, 108, 108, 3, 34, 97, 34, 8, 3, 34, 97, 34, 3, 97, 108, 108]
        self.assertEqual(answers(line), [1, 0, 2, 3, 0, 4, 0, 97, 108, 108, 2, 0, 0, 1, 1])

    def test_empty_rows(self):
        self.assertEqual(answers([0, 0, 0, 4, 0, 0, 1, 97, 1, 98, 3, 0, 0, 0]), [1, -1, 1, -13, 1, 0, 1, -1])
        self.assertEqual(answers([5, 0, 6, 0, 7, 0, 0, 8, 0, 0, 5, 0]), [2, 3, 0, 1, -13, 1, -13, 1, -13, 2, 3, 0])
        self.assertEqual(answers([7, 3, 97, 108, 108, 0, 8, 0, 3, 97, 108, 108, 5, 0]), [1, -23, 1, -13, 2, 3, 0])

    def test_what_is_handed_in_is_not_changed(self):
        line = list(FLAT)
        answers(line)
        self.assertEqual(line, FLAT)

    def test_what_is_handed_in_is_not_changed_for_a_while_either(self):
        class Guarded(list):
            def refuse(self, *given):
                raise AssertionError("the list was changed")

            __setitem__ = __delitem__ = __iadd__ = __imul__ = refuse
            append = extend = insert = pop = remove = clear = sort = reverse = refuse

        self.assertEqual(answers(Guarded(FLAT)), TOLD)

    def test_nothing_is_kept(self):
        line = list(FLAT)
        first = answers(line)
        first_copy = list(first)
        answers(flat([node("other"), node("app"), edge(0, 1), mark(0, "m", "t"), query("let $x = all in $x"), plain("all"), where("#")]))
        second = answers(line)
        self.assertEqual(second, first_copy)
        self.assertEqual(first, first_copy)
        self.assertIsNot(first, second)
        self.assertEqual(answers(query("all")), [1, 0])
        self.assertEqual(answers(query("$x")), [1, -15])

    def test_a_changed_answer_changes_no_later_one(self):
        answers(list(FLAT)).clear()
        self.assertEqual(answers(list(FLAT)), TOLD)

    def test_kinds_of_what_is_given_back(self):
        told = answers(list(FLAT))
        self.assertIs(type(told), list)
        for number in told:
            self.assertIs(type(number), int)

    def test_nothing_is_printed(self):
        out = io.StringIO()
        with contextlib.redirect_stdout(out), contextlib.redirect_stderr(out):
            answers(list(FLAT))
        self.assertEqual(out.getvalue(), "")

    def test_nothing_is_read_or_imported(self):
        refused = AssertionError("this is not asked for")
        with mock.patch("builtins.open", side_effect=refused), mock.patch("builtins.__import__", side_effect=refused):
            told = answers(list(FLAT))
        self.assertEqual(told, TOLD)

    def test_a_refused_call_leaves_everything_as_it_was(self):
        before = [node("a", "k"), node("b", "l"), edge(0, 1), mark(0, "m", "t")]
        refused = [
            node("", "k"), node("c", ""), node("a", "x"), edge(0, 2), edge(-1, 0), cut(1, 0), cut(0, 2), cut(2, 0),
            mark(2, "m", "u"), mark(0, "", "u"), mark(0, "m", ""), query("x"), query("#"), query("$x"), query('"c"'),
            query("(" * 21), query("x" * 1025), far(0, 2), far(2, 0), plain(""), plain("#"), plain("$x"), plain("(" * 21),
            plain("x" * 1025), path("", "all"), path("all", "#"), path('"c"', "all"), path("all", '"c"'), alike("$x", "all"),
            alike("all", "(" * 21), alike('"c"', "all"), alike("all", '"c"'),
        ]
        asked = [
            query("all"), query('kind("k", all)'), query('kind("l", all)'), query('mark("m", "t", all)'),
            query('mark("m", "u", all)'), far(0, 1), far(1, 0), far(0, 0), path('"a"', '"b"'), alike("all", 'deps("a")'), node("c"),
        ]
        wanted = answers(flat(before + asked))
        for call in refused:
            with self.subTest(call[:6]):
                told = answers(flat(before + [call] + asked))
                # Four calls ahead, each with one number behind its count.
                self.assertEqual(told[:8] + told[10:], wanted)
                self.assertEqual(told[8], 1)
                self.assertLess(told[9], 0)

    def test_calls_that_only_ask_leave_everything_as_it_was(self):
        asked = [call for call, told in LINE if call[0] >= 4]
        built = [call for call, told in LINE if call[0] < 4]
        wanted = [told for call, told in LINE if call[0] < 4]
        told = ask(*[part for call in built for part in [call] + asked])
        self.assertEqual(told[::len(asked) + 1], wanted)


class LongLines(unittest.TestCase):
    def check(self, pairs):
        """Twice, and not by assertEqual: to show how lists of this length differ would take it hours."""
        line = flat([call for call, told in pairs])
        before = list(line)
        wanted = counted([told for call, told in pairs])
        self.assertLessEqual(len(pairs), 400)
        self.assertLessEqual(len(line), 16000)
        self.assertTrue(answers(line) == wanted)
        self.assertTrue(line == before)
        self.assertTrue(answers(line) == wanted)
        return len(line)

    def test_400_calls(self):
        built = [(node(f"n{number}"), [number]) for number in range(64)]
        self.check(built + [(query("all"), [0] + list(range(64)))] * 336)

    def test_400_calls_of_all_sorts(self):
        self.check(LINE + [(far(0, 1), [-1])] * (400 - len(LINE)))
        asked = [
            (query("all"), [0, 0, 1]), (where("all )"), [3, 4]), (plain("((all))"), [0] + octets("all")), (path('"a"', '"b"'), [0, 0, 1]),
            (alike("all", 'deps("a")'), [1]), (far(0, 1), [1]), (mark(0, "m", "t"), [0]), (cut(0, 1), [0]), (far(0, 1), [-1]),
            (edge(0, 1), [1]), (node("a"), [-2]),
        ]
        pairs = [(node("a"), [0]), (node("b"), [1]), (edge(0, 1), [1])] + asked * 36
        self.check(pairs[:399] + [(query("all"), [0, 0, 1])])

    def test_16000_numbers(self):
        built = [(node("a"), [0]), (node("b"), [1]), (edge(0, 1), [1])]
        long_sum = "all" + "+all" * 255
        asked = [
            (query(long_sum), [0, 0, 1]), (where(long_sum), [0, 0]), (plain(long_sum), [0] + octets("all" + " + all" * 255)),
            (path(long_sum, long_sum), [0, 0]), (alike(long_sum, '"a"'), [0]), (query("x" * 2000), [-11]), (where("x" * 2000), [1, 0]),
            (path("x" * 2000, "x" * 2000), [-11]),
        ]
        pairs = built + asked
        left = 16000 - len(flat([call for call, told in pairs]))
        while left > 2000:
            pairs.append((where(" " * 1022), [3, 1022]))
            left -= 1024
        pairs.append((where("all" + " " * (left - 5)), [1, 0] if left - 2 > 1024 else [0, 0]))
        self.assertEqual(self.check(pairs), 16000)

    def test_16000_numbers_of_400_calls(self):
        # Each of the 400 calls has 40 numbers.
        pairs = [(node("a" * 18, "k" * 19), [0]), (mark(0, "m" * 18, "t" * 18), [0])]
        asked = [
            (query("all" + " " * 35), [0, 0]), (where(" " * 38), [3, 38]), (plain(" " * 33 + "(all)"), [0] + octets("all")),
            (path("all" + " " * 15, "all" + " " * 16), [0, 0]), (alike("all" + " " * 15, " " * 16 + "all"), [1]),
            (node("a" * 18, "k" * 19), [-2]), (mark(0, "m" * 18, "t" * 18), [0]), (mark(1, "m" * 18, "t" * 18), [-4]),
        ]
        pairs = (pairs + asked * 50)[:400]
        self.assertEqual(len(pairs), 400)
        self.assertEqual(self.check(pairs), 16000)


if __name__ == "__main__":
    unittest.main()
