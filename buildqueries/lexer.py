"""Cuts the text of a query into tokens."""

from buildqueries.refusals import TokenFault
from buildqueries.texts import QUOTE, is_text, is_text_byte

LETTERS = "abcdefghijklmnopqrstuvwxyz"
SMALL_A = 97
SMALL_Z = 122
DIGIT_0 = 48
DIGIT_9 = 57
DOLLAR = 36
BLANKS = (32, 9, 10, 13)
SIGNS = {40: "(", 41: ")", 44: ",", 43: "+", 45: "-", 38: "&", 61: "="}
LONGEST_WORD = 16
LONGEST_NUMBER = 2


class Token:
    """One token: form is word, number, quoted, variable, sign or end.

    It reaches from position up to, but not with, the position behind.
    """

    def __init__(self, form, value, position, behind):
        self.form = form
        self.value = value
        self.position = position
        self.behind = behind


def run_end(text, start, low, high):
    """The first position from start on whose byte is not from low to high."""
    place = start
    while place < len(text) and low <= text[place] <= high:
        place += 1
    return place


def lettered_token(text, position, form, start):
    """A word or a variable; its letters begin at start."""
    behind = run_end(text, start, SMALL_A, SMALL_Z)
    if not 1 <= behind - start <= LONGEST_WORD:
        raise TokenFault(position)
    word = "".join([LETTERS[byte - SMALL_A] for byte in text[start:behind]])
    return Token(form, word, position, behind)


def number_token(text, position):
    behind = run_end(text, position, DIGIT_0, DIGIT_9)
    digits = [byte - DIGIT_0 for byte in text[position:behind]]
    if len(digits) > LONGEST_NUMBER or (len(digits) > 1 and digits[0] == 0):
        raise TokenFault(position)
    value = 0
    for digit in digits:
        value = value * 10 + digit
    return Token("number", value, position, behind)


def quoted_token(text, position):
    start = position + 1
    place = start
    while place < len(text) and is_text_byte(text[place]):
        place += 1
    closed = place < len(text) and text[place] == QUOTE
    if not closed or not is_text(text[start:place]):
        raise TokenFault(position)
    return Token("quoted", text[start:place], position, place + 1)


def token_at(text, position):
    byte = text[position]
    if SMALL_A <= byte <= SMALL_Z:
        return lettered_token(text, position, "word", position)
    if byte == DOLLAR:
        return lettered_token(text, position, "variable", position + 1)
    if DIGIT_0 <= byte <= DIGIT_9:
        return number_token(text, position)
    if byte == QUOTE:
        return quoted_token(text, position)
    if byte in SIGNS:
        return Token("sign", SIGNS[byte], position, position + 1)
    raise TokenFault(position)


def cut_tokens(text):
    """All tokens of the text, the token end last."""
    tokens = []
    place = 0
    while place < len(text):
        if text[place] in BLANKS:
            place += 1
        else:
            token = token_at(text, place)
            tokens.append(token)
            place = token.behind
    tokens.append(Token("end", None, place, place))
    return tokens
