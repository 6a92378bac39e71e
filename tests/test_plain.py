"""Promise 7: the plain form of a query, and its refusals."""

import random
import unittest

from tests.helper import DEEP, LONG, SYNTAX, TOKEN, UNKNOWN, VARIABLE
from tests.helper import alike, ask, ask_last, edges, node, nodes, octets, plain, query, where


def printed(text):
    """The plain form as a text."""
    told = ask_last(plain(text))
    if told[0] != 0:
        raise AssertionError(f"refused with {told}: {text}")
    return bytes(told[1:]).decode("ascii")


class Plain(unittest.TestCase):
    def prints(self, *cases):
        for text, wanted in cases:
            with self.subTest(text):
                self.assertEqual(ask_last(plain(text)), [0] + octets(wanted))

    def stays(self, *texts):
        self.prints(*[(text, text) for text in texts])


class Forms(Plain):
    def test_one_by_one(self):
        self.stays('"a"', "all", "deps(all)", "deps(all, 3)", "needers(all, all)", "needers(all, all, 3)", "somepath(all, all)",
                   "allpaths(all, all)", 'kind("k", all)', 'filter("k", all)', 'mark("m", "t", all)', "leaves(all)", "roots(all)",
                   "first(all)", "let $x = all in $x", "all + all", "all - all", "all & all")

    def test_parts_in_their_order(self):
        self.stays('needers("u", "a", 9)', 'somepath("a", "b")', 'allpaths("a", "b")', 'mark("m", "t", "a")', 'let $v = "a" in "b"',
                   '"a" + "b" - "c" & "d"', 'kind("k", "a")', 'filter("t", "a")')

    def test_numbers(self):
        self.stays("deps(all, 0)", "deps(all, 9)", "deps(all, 10)", "deps(all, 99)", "needers(all, all, 0)", "needers(all, all, 70)")

    def test_quoted_texts_as_they_are(self):
        every = "".join(chr(byte) for byte in range(33, 127) if byte != 34)
        self.stays(*[f'"{every[start:start + 40]}"' for start in (0, 40, 53)])
        self.stays('"(a)+(b)"', "\"let$x=all\"", '",,"', '"0"', 'mark("(", ")", "$")')

    def test_variables_as_they_are(self):
        name = "v" * 16
        self.stays(f"let ${name} = all in ${name}", "let $let = all in let $in = $let in $in + $let", "let $a = all in $a", "let $z = all in $z")

    def test_nested(self):
        self.stays('let $x = deps("a", 2) in kind("k", $x - "b") & needers(all, $x, 0)',
                   'somepath(first(leaves(all)), allpaths(roots("a"), filter("t", mark("m", "t", "b"))))',
                   "let $x = all in let $y = $x in $x & $y", "let $x = let $y = all in $y in $x")


class Parentheses(Plain):
    def test_around_a_query(self):
        self.prints(("(all)", "all"), ('("a")', '"a"'), ("((all))", "all"), ("(all + all)", "all + all"), ("((deps(all)))", "deps(all)"),
                    ("(let $x = all in $x)", "let $x = all in $x"), ("(((all - all)))", "all - all"))

    def test_around_simple_terms(self):
        self.prints(("(all) + (all)", "all + all"), ('("a") - ("b") & (all)', '"a" - "b" & all'),
                    ("let $x = all in ($x) + ((deps($x)))", "let $x = all in $x + deps($x)"))

    def test_a_sum_as_the_left_operand(self):
        self.prints(("(all + all) - all", "all + all - all"), ('("a" - "b") & "c" + "d"', '"a" - "b" & "c" + "d"'),
                    ("((all + all) - all) & all", "all + all - all & all"), ("((all & all)) + all", "all & all + all"),
                    ('(("a" + "b") - ("c" + "d")) & "e"', '"a" + "b" - ("c" + "d") & "e"'))

    def test_a_sum_as_a_later_term(self):
        self.stays("all - (all + all)", "all + (all + all)", "all & (all & all)", '"a" - ("b" - ("c" - "d"))', "all + (all + all) + all",
                   "all + all - (all & all)", '"a" + "b" - ("c" & "d") - ("e" + "f")')

    def test_a_sum_first_within_a_later_term(self):
        self.prints(('"a" - (("b" + "c") - "d")', '"a" - ("b" + "c" - "d")'), ('("a" + "b") - (("c"))', '"a" + "b" - "c"'))

    def test_a_let_as_the_first_term(self):
        self.stays("(let $x = all in $x) + all", "(let $x = all in $x + $x) - all & all", "(let $x = all in $x) + all - (let $x = all in $x)")

    def test_a_let_as_a_later_term(self):
        self.stays("all + (let $x = all in $x)", "all - (let $x = all in $x - $x) & all", "all + all + (let $x = all in $x)")

    def test_a_let_first_within_a_left_operand(self):
        self.prints(("((let $x = all in $x) + all) - all", "(let $x = all in $x) + all - all"))

    def test_around_parentheses(self):
        self.prints(("((let $x = all in $x)) + all", "(let $x = all in $x) + all"), ("all + ((all - all))", "all + (all - all)"),
                    ("all + (((let $x = all in ((($x))))))", "all + (let $x = all in $x)"), ("all - (((all)))", "all - all"),
                    ("(((all + all))) - all", "all + all - all"))

    def test_the_parts_of_a_function(self):
        for word in ("deps", "leaves", "roots", "first"):
            self.prints((f"{word}((all))", f"{word}(all)"), (f"{word}((all + all))", f"{word}(all + all)"),
                        (f"{word}((let $x = all in $x))", f"{word}(let $x = all in $x)"))
            self.stays(f"{word}(all - (all + all))")
        for word in ("needers", "somepath", "allpaths"):
            self.prints((f"{word}((all + all), (all))", f"{word}(all + all, all)"),
                        (f"{word}((let $x = all in $x), ((all - all)))", f"{word}(let $x = all in $x, all - all)"),
                        (f"{word}(all, (let $x = all in $x))", f"{word}(all, let $x = all in $x)"))
        for opening in ('kind("k", ', 'filter("k", ', 'mark("m", "t", '):
            self.prints((opening + "(all + all))", opening + "all + all)"), (opening + "((all)))", opening + "all)"),
                        (opening + "(let $x = all in $x))", opening + "let $x = all in $x)"))

    def test_the_parts_of_a_function_with_a_number(self):
        self.prints(("deps((all + all), 1)", "deps(all + all, 1)"), ("deps((let $x = all in $x), 0)", "deps(let $x = all in $x, 0)"),
                    ("needers((all), (all - all), 12)", "needers(all, all - all, 12)"),
                    ("needers(all, (let $x = all in $x), 5)", "needers(all, let $x = all in $x, 5)"))

    def test_both_parts_of_a_let(self):
        self.prints(("let $x = (all) in ($x)", "let $x = all in $x"), ("let $x = (all + all) in ($x - all)", "let $x = all + all in $x - all"),
                    ("let $x = (let $y = all in $y) in (let $z = $x in $z)", "let $x = let $y = all in $y in let $z = $x in $z"),
                    ("let $x = ((all & all)) in (($x))", "let $x = all & all in $x"),
                    ("let $x = (all + all) - all in ($x + $x) - $x", "let $x = all + all - all in $x + $x - $x"))

    def test_a_function_is_no_sum(self):
        self.prints(("all - (deps(all + all))", "all - deps(all + all)"), ('(kind("k", all - all)) & all', 'kind("k", all - all) & all'))

    def test_nineteen_deep(self):
        self.prints(("(" * 19 + "all" + ")" * 19, "all"))
        self.stays("all - (" * 19 + "all - all" + ")" * 19, "deps(" * 19 + "all" + ", 1)" * 19, "let $x = " * 19 + "all" + " in $x" * 19)
        self.prints(("(" * 19 + "all" + " + all)" * 19, "all" + " + all" * 19))


class Blanks(Plain):
    def test_none(self):
        self.prints(("all+all-all&all", "all + all - all & all"), ('let$x="a"in"b"', 'let $x = "a" in "b"'), ("deps(all,1)", "deps(all, 1)"),
                    ('mark("m","t",all)', 'mark("m", "t", all)'), ("needers(all,all,2)", "needers(all, all, 2)"),
                    ('all-("a"+"b")', 'all - ("a" + "b")'), ("let$x=all in$x", "let $x = all in $x"))

    def test_each_sort(self):
        for blank in (" ", "\t", "\n", "\r", "  ", "\r\n", " \t\n\r "):
            text = blank.join(["", "let", "$x", "=", "deps", "(", '"a"', ",", "1", ")", "in", "mark", "(", '"m"', ",", '"t"', ",", "$x", "-", "(",
                               "all", "+", "all", ")", ")", ""])
            self.prints((text, 'let $x = deps("a", 1) in mark("m", "t", $x - (all + all))'))

    def test_at_both_ends(self):
        self.prints(("  all\n", "all"), ("\t\r\n all", "all"), ("all" + " " * 1021, "all"))


class Lengths(Plain):
    def test_longer_than_the_text(self):
        text = "all" + "+all" * 255
        self.assertEqual(len(text), 1023)
        self.prints((text, "all" + " + all" * 255), (text + " ", "all" + " + all" * 255))

    def test_much_longer_than_1024_bytes(self):
        text = "let$x=all in$x" + "+$x" * 336 + "  "
        self.assertEqual(len(text), 1024)
        self.prints((text, "let $x = all in $x" + " + $x" * 336))

    def test_one_long_row_of_terms_in_parentheses(self):
        self.prints(("(all)" + "-(all)" * 169, "all" + " - all" * 169))

    def test_the_plain_form_of_1024_bytes_stays(self):
        text = "all" + " + all" * 168 + ' + "x" + "yz"'
        self.assertEqual(len(text), 1024)
        self.stays(text)


class Refusals(Plain):
    def refuses(self, number, *texts):
        for text in texts:
            with self.subTest(text):
                self.assertEqual(ask_last(node("a"), plain(text)), [number])

    def test_long(self):
        self.refuses(LONG, "all" + " " * 1022, "(" * 1025, "#" * 2000)

    def test_token(self):
        self.refuses(TOKEN, "#", '""', "all + $", "deps(all, 00)", "$x )#", "x" * 17)

    def test_syntax(self):
        self.refuses(SYNTAX, "", "all +", "deps(x)", "(all", "all)", "let $x = all", "all + let $x = all in $x")

    def test_deep(self):
        self.refuses(DEEP, "(" * 20 + "all" + ")" * 20, "deps(" * 20 + "$x")

    def test_variable(self):
        self.refuses(VARIABLE, "$x", "let $x = $x in $x", "$x )", "(let $x = all in $x) + $x")

    def test_names_without_a_node_are_printed(self):
        self.prints(('"nope"', '"nope"'), ('deps("nope")+"b"', 'deps("nope") + "b"'))
        self.assertEqual(ask(query('"nope"'), plain('"nope"')), [[UNKNOWN], [0] + octets('"nope"')])

    def test_nothing_is_changed(self):
        told = ask(node("a"), plain('"b"'), plain("#"), query("all"), node("b"), plain("(all)"))
        self.assertEqual(told, [[0], [0] + octets('"b"'), [TOKEN], [0, 0], [1], [0] + octets("all")])


class Maker:
    """Makes a query with blanks and parentheses by chance, its plain form, and what it is: let, sum or one."""

    def __init__(self, dice):
        self.dice = dice

    def blank(self):
        return self.dice.choice(["", "", " ", "\n ", "\t"])

    def joined(self, *parts):
        return self.blank() + self.blank().join(parts) + self.blank()

    def expr(self, depth, known):
        roll = self.dice.random()
        if depth > 0 and roll < 0.2:
            text, form, sort = self.expr(depth - 1, known)
            return self.joined("(", text, ")"), form, sort
        if depth > 0 and roll < 0.4:
            return self.let(depth, known)
        return self.sum(depth, known) if roll < 0.8 else self.one(depth, known)

    def let(self, depth, known):
        name = self.dice.choice("xyz")
        given, given_form, sort = self.expr(depth - 1, known)
        body, body_form, sort = self.expr(depth - 1, known + name)
        return f"let ${name}={given} in {body}", f"let ${name} = {given_form} in {body_form}", "let"

    def term(self, depth, known):
        """Maybe an EXPR in parentheses."""
        if depth > 0 and self.dice.random() < 0.5:
            text, form, sort = self.expr(depth - 1, known)
            return self.joined("(", text, ")"), form, sort
        return self.one(depth, known)

    def sum(self, depth, known):
        text, form, sort = self.term(depth, known)
        form = f"({form})" if sort == "let" else form
        for count in range(self.dice.randint(1, 3)):
            sign = self.dice.choice("+-&")
            more, more_form, sort = self.term(depth, known)
            text = self.joined(text, sign, more)
            form += f" {sign} " + (more_form if sort == "one" else f"({more_form})")
        return text, form, "sum"

    def one(self, depth, known):
        words = {"deps": (0, 1, True), "needers": (0, 2, True), "somepath": (0, 2, False), "allpaths": (0, 2, False), "kind": (1, 1, False),
                 "filter": (1, 1, False), "mark": (2, 1, False), "leaves": (0, 1, False), "roots": (0, 1, False), "first": (0, 1, False)}
        if depth == 0 or self.dice.random() < 0.4:
            atom = self.dice.choice(["all", '"n0"', '"n1"', '"n2"'] + ["$" + name for name in known])
            return atom, atom, "one"
        word = self.dice.choice(sorted(words))
        texts, parts, numbered = words[word]
        made = [(text, text) for text in [self.dice.choice(['"n"', '"1"', '"lib"']) for count in range(texts)]]
        made += [self.expr(depth - 1, known)[:2] for count in range(parts)]
        if numbered and self.dice.random() < 0.5:
            made.append((self.dice.choice(["0", "1", "42"]),) * 2)
        inner = self.joined(",").join(text for text, form in made)
        return self.joined(word, "(", inner, ")"), word + "(" + ", ".join(form for text, form in made) + ")", "one"


class MadeUp(unittest.TestCase):
    def test_made_up_queries(self):
        dice = random.Random(24)
        graph = nodes(3) + edges((0, 1), (1, 2), (2, 0))
        seen = 0
        for turn in range(2000):
            text, form, sort = Maker(dice).expr(dice.randint(0, 6), "")
            if len(text) > 1024:
                continue
            seen += 1
            self.assertEqual(printed(text), form, text)
            if len(form) <= 1024:
                told = ask(*graph, plain(form), alike(text, form), where(form))[6:]
                self.assertEqual(told, [[0] + octets(form), [1], [0, 0]], text)
        self.assertGreater(seen, 1500)


if __name__ == "__main__":
    unittest.main()
