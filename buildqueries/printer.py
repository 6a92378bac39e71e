"""The plain form of a query, as bytes."""

from buildqueries.texts import QUOTE
from buildqueries.tree import Let, Quoted, Sum, Variable


def spelled(words):
    return [ord(sign) for sign in words]


def enclosed(row):
    return spelled("(") + row + spelled(")")


def quoted(text):
    return [QUOTE] + list(text) + [QUOTE]


def plain_first(tree):
    """The first TERM of a SUM.

    A SUM there stays open: it is worked first anyway. A let would take in what follows.
    """
    row = plain_form(tree)
    return enclosed(row) if isinstance(tree, Let) else row


def plain_later(tree):
    """A TERM of a SUM behind the first one."""
    row = plain_form(tree)
    return enclosed(row) if isinstance(tree, Let) or isinstance(tree, Sum) else row


def plain_sum(tree):
    row = plain_first(tree.first)
    for sign, term in tree.steps:
        row.extend(spelled(" " + sign + " "))
        row.extend(plain_later(term))
    return row


def plain_let(tree):
    opening = spelled("let $" + tree.name + " = ")
    return opening + plain_form(tree.given) + spelled(" in ") + plain_form(tree.body)


def plain_parts(tree):
    """What stands between the parentheses of a call, piece by piece."""
    pieces = [quoted(text) for text in tree.texts]
    pieces.extend([plain_form(part) for part in tree.parts])
    if tree.limit is not None:
        pieces.append(spelled(str(tree.limit)))
    return pieces


def plain_call(tree):
    if tree.word == "all":
        return spelled(tree.word)
    row = []
    for piece in plain_parts(tree):
        if len(row) > 0:
            row.extend(spelled(", "))
        row.extend(piece)
    return spelled(tree.word) + enclosed(row)


def plain_form(tree):
    if isinstance(tree, Let):
        return plain_let(tree)
    if isinstance(tree, Sum):
        return plain_sum(tree)
    if isinstance(tree, Quoted):
        return quoted(tree.text)
    if isinstance(tree, Variable):
        return spelled("$" + tree.name)
    return plain_call(tree)
