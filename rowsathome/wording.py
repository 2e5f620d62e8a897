"""How words, parts and lines of texts are written and read.

What reads a piece of a text returns None if it is not just so written.
"""

from rowsathome.shapes import are_names, is_ascending, is_name
from rowsathome.tables import is_deed, is_row

DIGITS = "0123456789"
NOTHING = "-"
NO_NAMES = "*"
BETWEEN_PARTS = " / "


def words_text(words):
    """Return the text of these words, with - if there are none."""
    return " ".join(words) if words else NOTHING


def names_text(names):
    """Return the word of NAMES that stand together."""
    return "+".join(names) if names else NO_NAMES


def row_text(row):
    """Return the text of a ROW, with its worth if it has one."""
    return " ".join([str(part) for part in row])


def rows_text(rows):
    """Return the line of these ROWS, with - if there are none."""
    return BETWEEN_PARTS.join([row_text(row) for row in rows]) if rows else NOTHING


def read_number(word):
    """Return the number of which this is the text."""
    digits = word[1:] if word.startswith("-") else word
    if not digits or not all([letter in DIGITS for letter in digits]):
        return None
    # No 0 stands ahead of other digits, and 0 has no sign.
    if digits[0] == "0" and word != "0":
        return None
    return -_worth_of(digits) if word.startswith("-") else _worth_of(digits)


def _worth_of(digits):
    """Return the number that has these digits, however many: Python itself reads some thousands at most."""
    start = len(digits) % 64
    number = int("0" + digits[:start])
    for at in range(start, len(digits), 64):
        number = number * 10 ** 64 + int(digits[at:at + 64])
    return number


def read_names(word):
    """Return the tuple of the NAMES that stand together in this word."""
    if word == NO_NAMES:
        return ()
    names = tuple(word.split("+"))
    return names if are_names(names) else None


def read_name(word):
    """Return this word if it is a NAME."""
    return word if is_name(word) else None


def read_all(pieces, read):
    """Return the tuple of what is read of these pieces, None if one is not well written."""
    found = tuple([read(piece) for piece in pieces])
    return None if None in found else found


def read_words(part, read):
    """Return the tuple of what is read of the words of this part."""
    return () if part == NOTHING else read_all(part.split(" "), read)


def read_row(schema, number, text):
    """Return the ROW of this SHEET with just this text."""
    words = text.split(" ")
    if number > 0:
        row = tuple(words)
    else:
        row = (*words[:-1], read_number(words[-1]))
    return row if is_row(schema, number, row) else None


def read_rows(schema, number, line):
    """Return the set of the ROWS of this SHEET with just this line."""
    if line == NOTHING:
        return ()
    rows = read_all(line.split(BETWEEN_PARTS), lambda part: read_row(schema, number, part))
    return rows if rows is not None and is_ascending(rows) else None


def deed_text(deed):
    """Return the line of this DEED."""
    what, number, row = deed
    return f"{what} {number} {row_text(row)}"


def read_deed(schema, line):
    """Return the DEED of this SCHEMA with just this line."""
    words = line.split(" ")
    if len(words) < 3:
        return None
    number = read_number(words[1])
    if number is None or not 0 <= number < len(schema):
        return None
    deed = (words[0], number, read_row(schema, number, " ".join(words[2:])))
    return deed if is_deed(schema, deed) else None
