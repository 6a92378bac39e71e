"""What a query's text is read into."""


class Quoted:
    def __init__(self, text):
        self.text = text


class Variable:
    def __init__(self, name):
        self.name = name


class Let:
    def __init__(self, name, given, body):
        self.name = name
        self.given = given
        self.body = body


class Sum:
    """first, then steps: a list of (sign, term), worked from the left to the right.

    The steps lie in one list, because a text may hold more of them than calls may nest.
    """

    def __init__(self, first, steps):
        self.first = first
        self.steps = steps


class Call:
    """A word with its quoted texts, its parts (the EXPR in it) and its number, or None.

    The word all is one too, without any of these.
    """

    def __init__(self, word, texts, parts, limit):
        self.word = word
        self.texts = texts
        self.parts = parts
        self.limit = limit
