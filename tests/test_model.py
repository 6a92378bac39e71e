"""Many made-up graphs and queries, against a plain second reading of the document."""

import random
import re
import unittest

from tests.helper import DEEP, LONG, SYNTAX, TOKEN, UNKNOWN, VARIABLE
from tests.helper import alike, ask, cut, edge, far, fault, mark, node, path, query

KINDS = ["bin", "lib", "test"]
MARKS = ["m", "n"]
TEXTS = ["s", "t"]
NAMES = ["a", "ab", "b", "ba", "aab", "c", "core", "cab"]


class World:
    """A graph as sets and dicts."""

    def __init__(self, dice):
        self.names = NAMES[:dice.randint(1, len(NAMES))]
        self.count = len(self.names)
        self.kinds = [dice.choice(KINDS) for name in self.names]
        self.marks = [{m: dice.choice(TEXTS) for m in MARKS if dice.random() < 0.6} for name in self.names]
        share = dice.choice([0.1, 0.2, 0.35])
        pairs = [(a, b) for a in range(self.count) for b in range(self.count)]
        self.edges = {pair for pair in pairs if dice.random() < share}
        self.cut = [pair for pair in sorted(self.edges) if dice.random() < 0.1]
        self.built = sorted(self.edges)
        dice.shuffle(self.built)
        self.edges -= set(self.cut)
        self.paths = self.shortest_paths()

    def calls(self):
        made = [node(name, kind) for name, kind in zip(self.names, self.kinds)]
        made += [edge(a, b) for a, b in self.built] + [cut(a, b) for a, b in self.cut]
        return made + [mark(a, m, t) for a, marks in enumerate(self.marks) for m, t in marks.items()]

    def shortest_paths(self):
        """For each pair of nodes the smallest of all shortest paths, by growing every simple path."""
        best = {}
        grown = [(a,) for a in range(self.count)]
        while grown:
            longer = []
            for path in sorted(grown):
                if (path[0], path[-1]) in best:
                    continue
                best[path[0], path[-1]] = path
            for path in grown:
                longer += [path + (b,) for a, b in sorted(self.edges) if a == path[-1] and b not in path]
            grown = longer
        return best

    def far(self, a, b):
        return len(self.paths[a, b]) - 1 if (a, b) in self.paths else None

    def within(self, a, b, limit):
        length = self.far(a, b)
        return length is not None and (limit is None or length <= limit)

    def deps(self, start, limit=None):
        return {b for b in range(self.count) if any(self.within(a, b, limit) for a in start)}

    def needing(self, goal, limit=None):
        return {a for a in range(self.count) if any(self.within(a, b, limit) for b in goal)}

    def chosen(self, start, goal):
        found = [self.paths[a, b] for a in start for b in goal if (a, b) in self.paths]
        return min(found, key=lambda path: (len(path), path)) if found else ()

    def leaves(self, group):
        return {a for a in group if not any((a, b) in self.edges for b in group - {a})}

    def roots(self, group):
        return {a for a in group if not any((b, a) in self.edges for b in group - {a})}


class Maker:
    """Makes queries together with what they mean; None where a name is unknown."""

    def __init__(self, dice, world):
        self.dice = dice
        self.world = world

    def blank(self):
        return self.dice.choice(["", "", " ", "\n", "\t "])

    def between(self, *parts):
        return self.blank().join(parts)

    def expr(self, depth, known):
        if depth > 0 and self.dice.random() < 0.25:
            name = self.dice.choice(["x", "y", "all", "let"])
            given, value = self.expr(depth - 1, known)
            body, meant = self.expr(depth - 1, {**known, name: value})
            text = f"let ${name} ={self.blank()}{given} in {body}"
            return text, None if value is None else meant
        return self.sum(depth, known)

    def sum(self, depth, known):
        text, meant = self.term(depth, known)
        while self.dice.random() < 0.35:
            sign = self.dice.choice("+-&")
            more, value = self.term(depth, known)
            text = self.between(text, sign, more)
            if meant is None or value is None:
                meant = None
            else:
                meant = {"+": meant | value, "-": meant - value, "&": meant & value}[sign]
        return text, meant

    def atom(self, known):
        roll = self.dice.random()
        if known and roll < 0.4:
            name = self.dice.choice(sorted(known))
            return f"${name}", known[name]
        if roll < 0.6:
            return "all", set(range(self.world.count))
        if roll < 0.62:
            return '"nope"', None
        number = self.dice.randrange(self.world.count)
        return f'"{self.world.names[number]}"', {number}

    def term(self, depth, known):
        if depth == 0 or self.dice.random() < 0.3:
            return self.atom(known)
        word = self.dice.choice(["", "deps", "needers", "somepath", "allpaths", "kind", "filter", "mark", "leaves", "roots", "first"])
        first, one = self.expr(depth - 1, known)
        if word in ("needers", "somepath", "allpaths"):
            return self.of_two(word, first, one, *self.expr(depth - 1, known))
        if word in ("kind", "filter", "mark"):
            return self.picked(word, first, one)
        limit, number = self.number() if word == "deps" else (None, "")
        text = self.between(word, "(", first, number, ")")
        return text, None if one is None else self.of_one(word, one, limit)

    def number(self):
        limit = self.dice.choice([None, 0, 1, 2, 3, 10, 99])
        return limit, "" if limit is None else f", {limit}"

    def of_one(self, word, one, limit):
        if word == "deps":
            return self.world.deps(one, limit)
        if word == "leaves":
            return self.world.leaves(one)
        if word == "roots":
            return self.world.roots(one)
        return {min(one)} if word == "first" and one else one

    def of_two(self, word, first, one, second, two):
        limit, number = self.number() if word == "needers" else (None, "")
        text = self.between(word, "(", first, ",", second, number, ")")
        if one is None or two is None:
            return text, None
        if word == "somepath":
            return text, set(self.world.chosen(one, two))
        return text, self.world.deps(one) & self.world.needing(two, limit)

    def picked(self, word, inner, group):
        name = self.dice.choice(MARKS)
        wanted = self.dice.choice({"kind": KINDS, "filter": ["a", "b", "ab", "or", "core", "x"], "mark": TEXTS}[word])
        texts = f'"{name}", "{wanted}"' if word == "mark" else f'"{wanted}"'
        text = self.between(word, "(", texts, ",", inner, ")")
        if group is None:
            return text, None
        keeps = {
            "kind": lambda number: self.world.kinds[number] == wanted,
            "filter": lambda number: wanted in self.world.names[number],
            "mark": lambda number: self.world.marks[number].get(name) == wanted,
        }[word]
        return text, {number for number in group if keeps(number)}


class Meant(unittest.TestCase):
    def test_queries_and_far(self):
        dice = random.Random(20)
        for turn in range(150):
            world = World(dice)
            maker = Maker(dice, world)
            made = [maker.expr(dice.randint(0, 5), {}) for count in range(20)]
            made = [(text, meant) for text, meant in made if len(text) <= 1024]
            pairs = [(a, b) for a in range(world.count) for b in range(world.count)]
            wanted = [[UNKNOWN] if meant is None else [0] + sorted(meant) for text, meant in made]
            wanted += [[-1 if world.far(a, b) is None else world.far(a, b)] for a, b in pairs]
            building = world.calls()
            told = ask(*building, *[query(text) for text, meant in made], *[far(a, b) for a, b in pairs])
            self.assertEqual(told[len(building):], wanted, (world.names, sorted(world.edges), made))

    def pair_refusal(self, a, b):
        """What a pair of queries that can be read is refused with, or None."""
        return [UNKNOWN] if a is None else [UNKNOWN - 10] if b is None else None

    def test_path_and_alike(self):
        dice = random.Random(25)
        seen = set()
        for turn in range(150):
            world = World(dice)
            maker = Maker(dice, world)
            made = [maker.expr(dice.randint(0, 3), {}) for count in range(20)]
            made = [(text, meant) for text, meant in made if len(text) <= 1024]
            pairs = [(dice.choice(made), dice.choice(made)) for count in range(30)]
            asked, wanted = [], []
            for (a, start), (b, goal) in pairs:
                refusal = self.pair_refusal(start, goal)
                asked += [path(a, b), alike(a, b)]
                wanted += [refusal or [0] + list(world.chosen(start, goal)), refusal or [1 if start == goal else 0]]
            building = world.calls()
            self.assertEqual(ask(*building, *asked)[len(building):], wanted, (world.names, sorted(world.edges), pairs))
            seen |= {tuple(told) if told[0] < 0 else len(told) for told in wanted[::2]}
        self.assertLessEqual({(UNKNOWN,), (UNKNOWN - 10,), 1, 2, 3, 4}, seen)


TOKEN_FORMS = re.compile(
    r'(?P<blank>[ \t\n\r]+)|(?P<word>[a-z]+)|(?P<number>[0-9]+)'
    r'|(?P<quoted>"[!#-~]{1,40}")|(?P<variable>\$[a-z]+)|(?P<sign>[(),+\-&=])'
)
SHAPES = {
    "deps": "E?", "needers": "E,E?", "somepath": "E,E", "allpaths": "E,E", "kind": "Q,E", "filter": "Q,E",
    "mark": "Q,Q,E", "leaves": "E", "roots": "E", "first": "E",
}


def model_tokens(text):
    """(form, text, position) one by one, or the position of the first that is none."""
    found = []
    place = 0
    while place < len(text):
        match = TOKEN_FORMS.match(text, place)
        if match is None:
            return None, place
        form, part = match.lastgroup, match.group()
        long_word = form in ("word", "variable") and len(part.lstrip("$")) > 16
        if long_word or (form == "number" and str(int(part) % 100) != part):
            return None, place
        if form != "blank":
            found.append((form, part, place))
        place = match.end()
    return found + [("end", "", place)], None


def expanded(wish, tokens, place):
    """What an EXPR or TERM at this token is made of: wishes in order, or None."""
    what, level, known = wish
    form, part, position = tokens[place]
    deeper = ("expr", level + 1, known)
    if what == "expr" and part == "let":
        bound = tokens[place + 1][1] if place + 1 < len(tokens) else ""
        return ["let", "variable", "=", deeper, "in", ("expr", level + 1, known | {bound})]
    if what == "expr":
        return [("term", level, known), ("more", level, known)]
    if what == "more":
        return [part, ("term", level, known), wish] if part in ("+", "-", "&") else []
    if what == "number":
        return [",", "digits"] if part == "," else []
    if form in ("quoted", "variable") or part == "all":
        return [part]
    if part == "(":
        return ["(", deeper, ")"]
    if part in SHAPES:
        inner = [{"E": deeper, "?": ("number", level, known), "Q": "text"}.get(sign, sign) for sign in SHAPES[part]]
        return [part, "("] + inner + [")"]
    return None


def fits(wish, token):
    form, part, position = token
    classes = {"variable": "variable", "digits": "number", "text": "quoted", "end": "end"}
    return form == classes[wish] if wish in classes else part == wish and form != "end"


def model_fault(text):
    """The fault of a text by a stack of wishes, or None."""
    if len(text) > 1024:
        return (LONG, 0)
    tokens, place = model_tokens(text)
    if tokens is None:
        return (TOKEN, place)
    place = 0
    wishes = ["end", ("expr", 1, frozenset())]
    while wishes:
        wish = wishes.pop()
        form, part, position = tokens[place]
        if isinstance(wish, str):
            if not fits(wish, tokens[place]):
                return (SYNTAX, position)
            place += 1
            continue
        if wish[0] == "expr" and wish[1] == 21:
            return (DEEP, position)
        if wish[0] == "term" and form == "variable" and part not in wish[2]:
            return (VARIABLE, position)
        made = expanded(wish, tokens, place)
        if made is None:
            return (SYNTAX, position)
        wishes.extend(reversed(made))
    return None


PIECES = ["(", ")", ",", "+", "-", "&", "=", "all", "let", "in", "$x", "$y", '"a"', "0", "7", "42", "deps", "kind", "mark",
          "needers", "first", "somepath", "filter", "roots", " ", "let $x = all in ", "let $y = ", "(((((", "deps(", "100",
          "00", "$", '"', '""', "#", "abcdefghijklmnopq", "$abcdefghijklmnop", "x"]


class Read(unittest.TestCase):
    """where, against the stack of wishes."""

    def check(self, text):
        found = fault(text)
        self.assertEqual(found, model_fault(text), text)
        return found

    def damaged(self, dice, text):
        """The text with a piece put in, or a part of it left out, doubled or moved."""
        a, b = sorted([dice.randint(0, len(text)), dice.randint(0, len(text))])
        b = min(b, a + 6)
        ways = [text[:a] + dice.choice(PIECES) + text[a:], text[:a] + text[b:], text[:b] + text[a:], text[b:] + text[:a], text[:a]]
        return dice.choice(ways)

    def test_damaged_queries(self):
        dice = random.Random(21)
        seen = set()
        for turn in range(3000):
            text, meant = Maker(dice, World(random.Random(turn % 7))).expr(dice.randint(0, 4), {})
            self.assertEqual(self.check(text) is None, len(text) <= 1024)
            found = self.check(self.damaged(dice, text))
            seen.add(found[0] if found else 0)
        self.assertLessEqual({0, TOKEN, SYNTAX, VARIABLE}, seen)

    def test_pieces_side_by_side(self):
        dice = random.Random(22)
        for turn in range(5000):
            self.check(dice.choice(["", " "]).join(dice.choice(PIECES[:33]) for count in range(dice.randint(0, 12))))

    def test_around_level_20(self):
        dice = random.Random(23)
        seen = set()
        openings = ["(", "deps(", "needers(all,", "let $x=", "let $x=all in ", 'kind("a",', 'mark("a","b",', "all+(", "first("]
        for turn in range(3000):
            chosen = [dice.choice(openings) for count in range(dice.randint(17, 21))]
            closings = [")" if "(" in opening else " in all" if opening.endswith("=") else "" for opening in reversed(chosen)]
            text = "".join(chosen) + dice.choice(["all", "$x", "(all)", "let $y=all in all", "", ")", '"a"', "x"]) + "".join(closings)
            found = self.check(text)
            seen.add(found[0] if found else 0)
        self.assertLessEqual({0, SYNTAX, VARIABLE, DEEP}, seen)


if __name__ == "__main__":
    unittest.main()
