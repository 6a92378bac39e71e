"""What counts as a name, a kind, or a mark's name or text: a short run of visible bytes."""

LONGEST_TEXT = 40
QUOTE = 34


def is_text_byte(byte):
    # A quote would end the quoted text in which a query names it.
    return 33 <= byte <= 126 and byte != QUOTE


def is_text(row):
    return 1 <= len(row) <= LONGEST_TEXT and all([is_text_byte(byte) for byte in row])
