"""Promises 5 and 6, the reading: tokens, grammar, levels, variables, and which fault counts."""

import unittest

from tests.helper import DEEP, LONG, SYNTAX, TOKEN, UNKNOWN, VARIABLE
from tests.helper import ask_last, fault, node, query


class Reading(unittest.TestCase):
    def told(self, text):
        return ask_last(node("a"), node("b"), query(text))

    def reads(self, *texts):
        for text in texts:
            with self.subTest(text):
                self.assertIsNone(fault(text))
                self.assertIn(self.told(text)[0], (0, UNKNOWN))

    def refuses(self, number, *cases):
        for text, position in cases:
            with self.subTest(text):
                self.assertEqual(fault(text), (number, position))
                self.assertEqual(self.told(text), [number])


class Tokens(Reading):
    def test_blanks_are_passed_over(self):
        self.assertEqual(self.told(' \t\r\ndeps\n(\t"a"\r,  1 ) \n'), [0, 0])
        self.assertEqual(self.told('deps("a",1)+"b"'), [0, 0, 1])

    def test_bytes_that_begin_no_token(self):
        signs = [ord(sign) for sign in '(),+-&=$"']
        blanks = [32, 9, 10, 13]
        for byte in range(256):
            if byte in signs or byte in blanks or 97 <= byte <= 122 or 48 <= byte <= 57:
                continue
            self.assertEqual(fault([97, 108, 108, 32, byte]), (TOKEN, 4), byte)
            self.assertEqual(self.told([97, 108, 108, 32, byte]), [TOKEN], byte)

    def test_blanks_stand_alone(self):
        for byte in (32, 9, 10, 13):
            self.assertEqual(self.told([97, 108, 108, byte]), [0, 0, 1])
            self.assertEqual(self.told([byte, 97, 108, 108]), [0, 0, 1])
        self.refuses(TOKEN, ("all\x0b", 3), ("all\x0c", 3), ("all\x00", 3), ("all\xa0", 3))

    def test_words(self):
        self.refuses(SYNTAX, ("x" * 16, 0), ("z" * 16, 0), ("all " + "x" * 16, 4))
        self.refuses(TOKEN, ("x" * 17, 0), ("all " + "x" * 17, 4), ("x" * 33, 0))
        self.refuses(TOKEN, ("All", 0), ("aLL", 1), ("all_", 3), ("d.eps", 1))

    def test_a_word_takes_all_letters(self):
        self.refuses(SYNTAX, ("allall", 0), ("alldeps", 0), ("let$x=all inall", 10))
        self.reads("let$x=all in all", 'let$x="a"in"b"')

    def test_numbers(self):
        self.reads('deps("a", 0)', 'deps("a", 1)', 'deps("a", 10)', 'deps("a", 99)')
        self.refuses(TOKEN, ('deps("a", 00)', 10), ('deps("a", 01)', 10), ('deps("a", 100)', 10), ("007", 0))
        self.refuses(SYNTAX, ('deps("a", 1 0)', 12), ('deps("a", 0 0)', 12), ("0", 0), ("42", 0), ("1a", 0), ("deps1", 4))

    def test_quoted_texts(self):
        self.assertEqual(self.told('"a"'), [0, 0])
        self.reads('"' + "x" * 40 + '"', '"!"', '"~"', "\"deps('x')$&\"", '"a""b"'[:3])
        self.refuses(TOKEN, ('""', 0), ('"' + "x" * 41 + '"', 0), ('"a', 0), ('"', 0), ('"a b"', 0), ('"a\n"', 0))
        self.refuses(TOKEN, ('"\x7f"', 0), ('"\xe4"', 0), ('"\x00"', 0), ('all + "a', 6), ('"' + "x" * 40, 0))
        self.refuses(SYNTAX, ('"a""b"', 3))

    def test_every_byte_in_a_quoted_text(self):
        for byte in range(256):
            if byte == 34:
                continue
            found = fault([34, 97, byte, 34])
            self.assertEqual(found, None if 33 <= byte <= 126 else (TOKEN, 0), byte)

    def test_variables(self):
        name = "v" * 16
        self.assertEqual(self.told(f'let ${name} = "b" in ${name}'), [0, 1])
        self.refuses(TOKEN, ("$", 0), ("$ x", 0), ("$1", 0), ('$"a"', 0), ("$X", 0), ("$$x", 0), ("$" + "v" * 17, 0))
        self.refuses(TOKEN, ("let $ x = all in all", 4), ("all + $", 6))
        self.refuses(VARIABLE, ("$" + name, 0))

    def test_a_variable_may_be_called_like_any_word(self):
        self.assertEqual(self.told('let $let = "a" in let $in = "b" in let $all = $let + $in in $all'), [0, 0, 1])

    def test_all_is_cut_before_anything_is_read(self):
        self.refuses(TOKEN, (") #", 2), ("$x + 007", 5), ("(" * 21 + "#", 21), ('all all ""', 8), ("$x ; $", 3))


class Length(Reading):
    def test_1024_bytes(self):
        self.assertEqual(self.told("all" + " " * 1021), [0, 0, 1])
        self.assertEqual(self.told(" " * 1021 + "all"), [0, 0, 1])

    def test_more_than_1024_bytes(self):
        self.refuses(LONG, ("all" + " " * 1022, 0), ("all" + " " * 1997, 0), ("#" * 1025, 0), ("(" * 1025, 0))

    def test_other_faults_at_1024_bytes(self):
        self.refuses(TOKEN, (" " * 1023 + "#", 1023), ("#" * 1024, 0))
        self.refuses(SYNTAX, (" " * 1024, 1024), ("all " * 256, 4))
        self.refuses(DEEP, ("(" * 1024, 20))

    def test_a_long_sum(self):
        self.assertEqual(self.told("all" + "+all" * 255), [0, 0, 1])
        self.assertEqual(self.told("all" + "-all" * 255), [0])
        self.assertEqual(self.told('let $x = "b" in $x' + "+$x" * 335), [0, 1])


class Grammar(Reading):
    def test_every_form(self):
        self.reads(
            '"a"', "all", "(all)", '("a")', "deps(all)", "deps(all, 3)", "needers(all, all)", "needers(all, all, 3)",
            "somepath(all, all)", "allpaths(all, all)", 'kind("k", all)', 'filter("k", all)', 'mark("k", "l", all)',
            "leaves(all)", "roots(all)", "first(all)", "let $x = all in $x", "all + all", "all - all", "all & all",
            "all + all - all & all", "((all))", "(let $x = all in $x) + all", "deps(let $x = all in $x, 1)",
            "needers(all + all, let $x = all in $x, 0)", "let $x = let $y = all in $y in $x",
            'kind("k", all + all)', 'mark("k", "l", let $x = all in $x)', "let $x = all + all in $x - $x",
        )

    def test_a_query_ends_at_the_texts_end(self):
        self.refuses(SYNTAX, ("", 0), ("  ", 2), ("all all", 4), ("all)", 3), ("all,", 3), ("all =", 4), ("all 1", 4))
        self.refuses(SYNTAX, ("all (all)", 4), ('"a" "b"', 4), ("all in all", 4), ("all let", 4), ("all let $x = all in $x", 4))

    def test_a_term_is_missing(self):
        self.refuses(SYNTAX, ("+", 0), ("+ all", 0), ("- all", 0), ("& all", 0), ("all +", 5), ("all + + all", 6))
        self.refuses(SYNTAX, ("=", 0), (",", 0), (")", 0), ("()", 1), ("(", 1), ("(all", 4), ("(all,", 4), ("all + )", 6))

    def test_words_that_begin_no_term(self):
        self.refuses(SYNTAX, ("in", 0), ("x", 0), ("dep(all)", 0), ("depss(all)", 0), ("all + needer(all, all)", 6))
        self.refuses(SYNTAX, ("path(all, all)", 0), ("where(all)", 0), ("name", 0), ("let", 3))
        self.refuses(SYNTAX, ("deps", 4), ("deps all", 5), ("all(all)", 3), ("all()", 3))

    def test_let_is_no_term(self):
        self.refuses(SYNTAX, ("all + let $x = all in $x", 6), ("all & let $x = all in all", 6))

    def test_let(self):
        self.refuses(SYNTAX, ("let x = all in all", 4), ('let "x" = all in all', 4), ("let = all in all", 4))
        self.refuses(SYNTAX, ("let $x all in all", 7), ("let $x + all in all", 7), ("let $x = in all", 9))
        self.refuses(SYNTAX, ("let $x = all", 12), ("let $x = all, all", 12), ("let $x = all all", 13))
        self.refuses(SYNTAX, ("let $x = all in", 15), ("let $x = all in )", 16), ("let $x = all in in all", 16))
        self.refuses(SYNTAX, ("let $x = all in $x in $x", 19), ("let $x = all let $y = all in all", 13))

    def test_calls_of_one_part(self):
        for word in ("leaves", "roots", "first"):
            at = len(word)
            self.refuses(SYNTAX, (word, at), (word + "()", at + 1), (word + "(all", at + 4), (word + "(1)", at + 1))
            self.refuses(SYNTAX, (word + "(all, 1)", at + 4), (word + "(all, all)", at + 4), (word + "(all))", at + 5))

    def test_deps(self):
        self.refuses(SYNTAX, ("deps()", 5), ("deps(all,)", 9), ("deps(all, all)", 10), ("deps(all, 1, 1)", 11))
        self.refuses(SYNTAX, ("deps(1)", 5), ("deps(all 1)", 9), ('deps(all, "a")', 10), ("deps(all, 1 + all)", 12))
        self.refuses(SYNTAX, ("deps(all, $x)", 10), ("deps(all, (1))", 10))

    def test_needers(self):
        self.refuses(SYNTAX, ("needers(all)", 11), ("needers(all, 1)", 13), ("needers(all, all,)", 17))
        self.refuses(SYNTAX, ("needers(all, all, all)", 18), ("needers(all, all, 1, 1)", 19), ("needers()", 8))

    def test_paths(self):
        for word in ("somepath", "allpaths"):
            self.refuses(SYNTAX, (word + "(all)", 12), (word + "(all, all, 1)", 17), (word + "(all, all, all)", 17))
            self.refuses(SYNTAX, (word + "(all,)", 13), (word + "()", 9), (word + "(all all)", 13))

    def test_kind_and_filter(self):
        for word in ("kind", "filter"):
            at = len(word)
            self.refuses(SYNTAX, (word + "(all, all)", at + 1), (word + '("k")', at + 4), (word + '("k" all)', at + 5))
            self.refuses(SYNTAX, (word + '("k",)', at + 5), (word + '("k", all, 1)', at + 9), (word + "($x, all)", at + 1))
            self.refuses(SYNTAX, (word + '(("k"), all)', at + 1), (word + '("k" + "l", all)', at + 5))

    def test_mark(self):
        self.refuses(SYNTAX, ('mark("m", all)', 10), ('mark("m", "t")', 13), ('mark("m", "t", all, 1)', 18))
        self.refuses(SYNTAX, ("mark(all)", 5), ('mark("m" "t", all)', 9), ('mark("m", "t" all)', 14), ('mark("m", "t",)', 14))


def nested(opening, inner, closing, times):
    return opening * times + inner + closing * times


class Levels(Reading):
    def test_level_20(self):
        self.assertEqual(self.told(nested("(", '"a"', ")", 19)), [0, 0])
        self.assertEqual(self.told(nested("deps(", '"a"', ", 1)", 19)), [0, 0])
        self.assertEqual(self.told(nested("let $x = all in ", "$x", "", 19)), [0, 0, 1])
        self.assertEqual(self.told(nested("let $x = ", '"b"', " in $x", 19)), [0, 1])
        self.assertEqual(self.told(nested("needers(all, ", '"b"', ")", 19)), [0, 1])
        self.assertEqual(self.told(nested('mark("m", "t", ', "all", ")", 19)), [0])
        self.assertEqual(self.told(nested("(", "all + all - all", ")", 19)), [0])
        self.assertEqual(self.told(nested('"b" + (', '"a"', ")", 19)), [0, 0, 1])

    def test_level_21(self):
        self.refuses(DEEP, (nested("(", '"a"', ")", 20), 20), (nested("deps(", '"a"', ", 1)", 20), 100))
        self.refuses(DEEP, (nested("let $x = all in ", "$x", "", 20), 313), (nested("let $x = ", '"b"', " in $x", 20), 180))
        self.refuses(DEEP, (nested("needers(all, ", '"b"', ")", 20), 255))
        self.refuses(DEEP, (nested('mark("m", "t", ', "all", ")", 20), 300), (nested('kind("k", ', "all", ")", 20), 200))
        self.refuses(DEEP, (nested("all + (", "all", ")", 20), 140), (nested("first(", "all", ")", 30), 120))

    def test_a_later_part_at_level_21(self):
        self.refuses(DEEP, (nested("(", "somepath(all, all)", ")", 19), 28))
        self.refuses(DEEP, (nested("(", "let $x = all in all", ")", 19), 28))
        self.reads(nested("(", "somepath(all, all)", ")", 18), nested("(", "let $x = all in all", ")", 18))
        self.refuses(DEEP, (nested("(", "somepath(all, (all))", ")", 18), 33))
        self.refuses(DEEP, (nested("(", "let $x = all in (all)", ")", 18), 35))

    def test_depth_does_not_add_up_beside_one_another(self):
        self.reads("+".join([nested("(", "all", ")", 19)] * 5), "(all)+" * 100 + "all")

    def test_the_token_at_level_21_is_deep_whatever_it_is(self):
        opening = "(" * 20
        for rest in ("", ")", "+", "$x", "in", "xyz", "7", ",", "let", "all", '"no"'):
            self.refuses(DEEP, (opening + rest, 20), (opening + "  " + rest, 22))

    def test_syntax_ahead_of_level_21(self):
        self.refuses(SYNTAX, ("(" * 19 + ")", 19), ("(" * 19 + "deps all", 24), ("all all" + "(" * 21, 4))
        self.refuses(SYNTAX, ("(" * 19 + "let x = all", 23), ("(" * 19 + "kind(all", 24))

    def test_deep_ahead_of_syntax(self):
        self.refuses(DEEP, ("(" * 21 + " + + )", 20), ("(" * 20 + "all", 20))


class Variables(Reading):
    def test_unknown(self):
        self.refuses(VARIABLE, ("$x", 0), ("all + $x", 6), ("deps($x)", 5), ("let $x = all in $y", 16))
        self.refuses(VARIABLE, ("let $x = $x in $x", 9), ("(let $x = all in $x) + $x", 23), ("let $xy = all in $x", 17))
        self.refuses(VARIABLE, ("let $x = all in let $y = $y in $x", 25), ("needers(let $x = all in $x, $x)", 28))
        self.refuses(VARIABLE, ("let $x = (let $y = all in $y) in $y", 33), ("let $x = let $y = all in $y in $y", 31))

    def test_known(self):
        self.reads("let $x = all in ($x + deps($x))", "let $x = all in let $y = $x in $x & $y")
        self.reads("let $x = all in let $x = $x in $x", "let $x = all in needers($x, let $y = $x in $y, 1)")
        self.reads("let $x = all in (let $y = all in $y) + $x", "let $x = all in (let $x = all in $x) + $x")

    def test_variable_ahead_of_syntax_and_deep(self):
        self.refuses(VARIABLE, ("$x $y", 0), ("$x )", 0), ("deps($x", 5), ("$x + " + "(" * 21, 0), ("let $x = $x", 9))

    def test_syntax_ahead_of_variable(self):
        self.refuses(SYNTAX, (") $x", 0), ("all $x", 4), ("let $x $x", 7), ("let $x = all in $x $y", 19), ("deps(x, $x)", 5))

    def test_deep_ahead_of_variable(self):
        self.refuses(DEEP, ("(" * 20 + "$x", 20), ("(" * 21 + "$x", 20))
        self.refuses(VARIABLE, ("(" * 19 + "$x", 19))

    def test_faults_count_before_unknown(self):
        self.refuses(SYNTAX, ('"nope" +', 8))
        self.refuses(VARIABLE, ('"nope" + $x', 9))
        self.refuses(TOKEN, ('"nope" #', 7))
        self.refuses(DEEP, ('"nope" + ' + "(" * 20, 29))
        self.refuses(LONG, ('"nope"' + " " * 1019, 0))


if __name__ == "__main__":
    unittest.main()
