"""Promise 6: where tells the fault and its position, and refuses nothing."""

import unittest

from tests.helper import ask, ask_last, node, query, where

READ = [0, 0]


class Where(unittest.TestCase):
    def tells(self, *cases):
        for text, wanted in cases:
            with self.subTest(text):
                self.assertEqual(ask_last(where(text)), wanted)
                self.assertEqual(ask_last(node("a"), where(text)), wanted)


class Readable(Where):
    def test_every_form(self):
        for text in ('"a"', "all", "(all)", "deps(all)", "deps(all, 3)", "needers(all, all)", "needers(all, all, 99)",
                     "somepath(all, all)", "allpaths(all, all)", 'kind("k", all)', 'filter("k", all)', 'mark("m", "t", all)',
                     "leaves(all)", "roots(all)", "first(all)", "let $x = all in $x", "all + all - all & all"):
            self.tells((text, READ), (" \n" + text + "\t\r", READ))

    def test_names_without_a_node_are_not_asked_about(self):
        self.tells(('"nope"', READ), ('"nope" + deps("other")', READ), ('let $x = "nope" in all', READ))
        self.assertEqual(ask(query('"nope"'), where('"nope"')), [[-16], READ])

    def test_1024_bytes(self):
        self.tells(("all" + " " * 1021, READ), (" " * 1021 + "all", READ), ("all" + "+all" * 255 + " ", READ))

    def test_level_20(self):
        self.tells(("(" * 19 + "all" + ")" * 19, READ))


class Faults(Where):
    def test_long(self):
        self.tells((" " * 1025, [1, 0]), ("all" + " " * 1022, [1, 0]), ("#" * 1025, [1, 0]), ("(" * 2000, [1, 0]),
                   ("$x" + " " * 1998, [1, 0]), ("all" + " " * 1020 + "#)", [1, 0]))

    def test_token_at_the_first_byte(self):
        self.tells(("#", [2, 0]), ("$", [2, 0]), ('"', [2, 0]), ('""', [2, 0]), ("00", [2, 0]), ("100", [2, 0]),
                   ("x" * 17, [2, 0]), ("$" + "x" * 17, [2, 0]), ('"' + "x" * 41 + '"', [2, 0]), ("A", [2, 0]), (b"\x00", [2, 0]))

    def test_token_within(self):
        self.tells(("all # all", [2, 4]), ("deps(all, 07)", [2, 10]), ('all + "a b" + all', [2, 6]), ("let $ x = all in $x", [2, 4]),
                   ("deps(all, 123)", [2, 10]), ("all + " + "x" * 17 + " + all", [2, 6]), (b"all\xff all", [2, 3]), ("aLl", [2, 1]))

    def test_token_at_the_end(self):
        self.tells(("all#", [2, 3]), ("all $", [2, 4]), ('all + "', [2, 6]), ('all + "a', [2, 6]), (" " * 1023 + "#", [2, 1023]))

    def test_syntax_at_the_first_byte(self):
        self.tells((")", [3, 0]), ("+ all", [3, 0]), ("in", [3, 0]), ("x", [3, 0]), ("7", [3, 0]), ("=", [3, 0]), ("", [3, 0]))

    def test_syntax_within(self):
        self.tells(("all all", [3, 4]), ("deps(x)", [3, 5]), ("all + + all", [3, 6]), ("deps(all, all)", [3, 10]),
                   ("let $x all in $x", [3, 7]), ("kind(all, all)", [3, 5]), ("all + let $x = all in $x", [3, 6]))

    def test_syntax_at_the_end(self):
        self.tells(("  ", [3, 2]), ("all +", [3, 5]), ("(all", [3, 4]), ("deps", [3, 4]), ("deps(all,  ", [3, 11]), ("let", [3, 3]),
                   ("let $x = all", [3, 12]), ("let $x = all in", [3, 15]), ("all)", [3, 3]), (" " * 1024, [3, 1024]),
                   ("all +" + " " * 1019, [3, 1024]))

    def test_deep(self):
        self.tells(("(" * 20, [4, 20]), ("(" * 20 + "all" + ")" * 20, [4, 20]), ("(" * 20 + "   ", [4, 23]), ("(" * 1024, [4, 20]),
                   ("deps(" * 20 + "all" + ")" * 20, [4, 100]), ("let $x = " * 20 + "all", [4, 180]),
                   ("let $x = all in " * 20 + "all", [4, 313]), ("all + " * 9 + "(" * 20 + "all", [4, 74]))

    def test_deep_at_the_last_byte_that_may_be(self):
        self.tells((" " * 1004 + "(" * 20, [4, 1024]), (" " * 1003 + "(" * 20 + ")", [4, 1023]))

    def test_variable_at_the_first_byte(self):
        self.tells(("$x", [5, 0]), ("$x + all", [5, 0]))

    def test_variable_within(self):
        self.tells(("all + $x - all", [5, 6]), ("let $x = $x in $x", [5, 9]), ("(let $x = all in $x) + $x + all", [5, 23]),
                   ("deps($x, 1)", [5, 5]), ("let $x = all in $y + $x", [5, 16]))

    def test_variable_at_the_end(self):
        self.tells(("all + $x", [5, 6]), ("let $x = all in $y", [5, 16]), (" " * 1022 + "$x", [5, 1022]))


class Several(Where):
    def test_long_counts_before_all(self):
        for text in ("#", ")", "$x", "(" * 21):
            self.tells((text + " " * (1025 - len(text)), [1, 0]))

    def test_token_counts_before_what_is_left_of_it(self):
        self.tells((") #", [2, 2]), ("$x #", [2, 3]), ("(" * 21 + "#", [2, 21]), ('all all + "" + $', [2, 10]))

    def test_the_first_token_of_several(self):
        self.tells(("# ; 00", [2, 0]), ("all 00 #", [2, 4]), ('$ ""', [2, 0]))

    def test_syntax_ahead_of_others(self):
        self.tells((") $x", [3, 0]), (") )", [3, 0]), ("all $x", [3, 4]), (") + " + "(" * 21, [3, 0]), ("(" * 19 + ")" + "(" * 9, [3, 19]))

    def test_variable_ahead_of_others(self):
        self.tells(("$x )", [5, 0]), ("$x $y", [5, 0]), ("$x + " + "(" * 21, [5, 0]), ("(" * 19 + "$x", [5, 19]), ("deps($x", [5, 5]))

    def test_deep_ahead_of_others(self):
        self.tells(("(" * 20 + "$x", [4, 20]), ("(" * 20 + ")", [4, 20]), ("(" * 20 + "in $x (", [4, 20]))


class Graph(Where):
    def test_nothing_is_changed(self):
        told = ask(node("a"), where('"a"'), where("#"), where('"b"'), node("b"), where(""), query("all"))
        self.assertEqual(told, [[0], READ, [2, 0], READ, [1], [3, 0], [0, 0, 1]])


if __name__ == "__main__":
    unittest.main()
