"""Reads the text of a query, or tells its first fault."""

from buildqueries.lexer import cut_tokens
from buildqueries.refusals import DeepFault, LongFault, SyntaxFault, VariableFault
from buildqueries.tree import Call, Let, Quoted, Sum, Variable

LONGEST_QUERY = 1024
DEEPEST_LEVEL = 20
SUM_SIGNS = ("+", "-", "&")
# For each word: how many quoted texts, how many EXPR, and whether a number may follow.
CALL_SHAPES = {
    "deps": (0, 1, True),
    "needers": (0, 2, True),
    "somepath": (0, 2, False),
    "allpaths": (0, 2, False),
    "kind": (1, 1, False),
    "filter": (1, 1, False),
    "mark": (2, 1, False),
    "leaves": (0, 1, False),
    "roots": (0, 1, False),
    "first": (0, 1, False),
}


class Reader:
    """Goes through the tokens once, from the left, so that the first fault met is the one that counts.

    level is how deep the EXPR lies; known is a tuple of the variables known there.
    """

    def __init__(self, tokens):
        self.tokens = tokens
        self.place = 0

    def current(self):
        return self.tokens[self.place]

    def stands(self, form, value):
        token = self.current()
        return token.form == form and token.value == value

    def take(self, form):
        """Passes over a token of this form and gives its value."""
        token = self.current()
        if token.form != form:
            raise SyntaxFault(token.position)
        self.place += 1
        return token.value

    def take_exactly(self, form, value):
        if not self.stands(form, value):
            raise SyntaxFault(self.current().position)
        self.place += 1

    def read_whole(self):
        query = self.read_expr(1, ())
        if self.current().form != "end":
            raise SyntaxFault(self.current().position)
        return query

    def read_expr(self, level, known):
        if level > DEEPEST_LEVEL:
            raise DeepFault(self.current().position)
        if self.stands("word", "let"):
            return self.read_let(level, known)
        return self.read_sum(level, known)

    def read_let(self, level, known):
        self.take_exactly("word", "let")
        name = self.take("variable")
        self.take_exactly("sign", "=")
        given = self.read_expr(level + 1, known)
        self.take_exactly("word", "in")
        body = self.read_expr(level + 1, known + (name,))
        return Let(name, given, body)

    def read_sum(self, level, known):
        first = self.read_term(level, known)
        steps = []
        while self.current().form == "sign" and self.current().value in SUM_SIGNS:
            sign = self.take("sign")
            steps.append((sign, self.read_term(level, known)))
        if len(steps) == 0:
            return first
        return Sum(first, steps)

    def read_term(self, level, known):
        token = self.current()
        if token.form == "quoted":
            return Quoted(self.take("quoted"))
        if token.form == "variable":
            return self.read_variable(known)
        if self.stands("word", "all"):
            self.take("word")
            return Call("all", [], [], None)
        if self.stands("sign", "("):
            return self.read_parentheses(level, known)
        if token.form == "word" and token.value in CALL_SHAPES:
            return self.read_call(level, known)
        raise SyntaxFault(token.position)

    def read_variable(self, known):
        token = self.current()
        if token.value not in known:
            raise VariableFault(token.position)
        return Variable(self.take("variable"))

    def read_parentheses(self, level, known):
        self.take_exactly("sign", "(")
        inner = self.read_expr(level + 1, known)
        self.take_exactly("sign", ")")
        return inner

    def read_call(self, level, known):
        word = self.take("word")
        shape = CALL_SHAPES[word]
        self.take_exactly("sign", "(")
        texts = self.read_texts(shape[0])
        parts = self.read_parts(shape[1], level + 1, known)
        limit = None
        if shape[2] and self.stands("sign", ","):
            self.take("sign")
            limit = self.take("number")
        self.take_exactly("sign", ")")
        return Call(word, texts, parts, limit)

    def read_texts(self, wanted):
        """Quoted texts, each with the comma behind it."""
        texts = []
        while len(texts) < wanted:
            texts.append(self.take("quoted"))
            self.take_exactly("sign", ",")
        return texts

    def read_parts(self, wanted, level, known):
        """EXPR with commas between."""
        parts = [self.read_expr(level, known)]
        while len(parts) < wanted:
            self.take_exactly("sign", ",")
            parts.append(self.read_expr(level, known))
        return parts


def read_query(text):
    """The tree of a query's text, a tuple of bytes."""
    if len(text) > LONGEST_QUERY:
        raise LongFault()
    return Reader(cut_tokens(text)).read_whole()
