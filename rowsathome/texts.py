"""Texts of SCHEMAS, TABLES, QUESTIONS, DEALS, DEALINGS and DEEDS, written and read."""

from rowsathome.deals import is_dealing
from rowsathome.errors import BadLine, BadText
from rowsathome.schemas import is_question
from rowsathome.shapes import frozen, is_ascending
from rowsathome.wording import (
    BETWEEN_PARTS,
    NOTHING,
    deed_text,
    names_text,
    read_all,
    read_deed,
    read_name,
    read_names,
    read_number,
    read_rows,
    read_words,
    rows_text,
    words_text,
)


def schema_text(schema):
    """Return the text of this SCHEMA: a line for each SHEET."""
    return "\n".join([_sheet_line(sheet) for sheet in frozen(schema)])


def _sheet_line(sheet):
    columns, rules, keys, references = sheet
    return BETWEEN_PARTS.join([
        words_text(columns),
        words_text([f"{names_text(few)}>{one}" for few, one in rules]),
        words_text([names_text(key) for key in keys]),
        words_text([f"{other}:{names_text(names)}={names_text(key)}" for other, names, key in references]),
    ])


def tables_text(tables):
    """Return the text of these TABLES: a line for each SHEET."""
    return "\n".join([rows_text(rows) for rows in frozen(tables)])


def question_text(question):
    """Return the text of this QUESTION: three parts."""
    chosen, links, groups = frozen(question)
    return BETWEEN_PARTS.join([
        words_text([str(number) for number in chosen]),
        words_text([f"{one}={other}" for one, other in links]),
        words_text(groups),
    ])


def deal_text(deal):
    """Return the text of this DEAL: a word for each SHEET."""
    return " ".join([NOTHING if part is None else names_text(part) for part in frozen(deal)])


def dealing_text(dealing):
    """Return the text of this DEALING: two parts."""
    houses, told = frozen(dealing)
    return BETWEEN_PARTS.join([str(houses), words_text([f"{names_text(names)}:{house}" for names, house in told])])


def deeds_text(deeds):
    """Return the text of these DEEDS: a line for each."""
    return "\n".join([deed_text(deed) for deed in frozen(deeds)])


def read_schema(text):
    """Return the SCHEMA with just this text."""
    sheets, known = [], {}
    for number, line in enumerate(text.split("\n")):
        sheet = _read_sheet(line, known)
        if sheet is None:
            raise BadLine(number)
        sheets.append(sheet)
        for column in sheet[0]:
            known[column] = True
    for number, sheet in enumerate(sheets):
        if not _refers_well(sheets, number):
            raise BadLine(number)
    return tuple(sheets)


def _read_sheet(line, known):
    """Return the SHEET with just this line, whatever its REFERENCES are to, or None."""
    parts = line.split(BETWEEN_PARTS)
    if len(parts) != 4:
        return None
    columns = read_words(parts[0], read_name)
    if not columns or not is_ascending(columns) or any([column in known for column in columns]):
        return None
    rules = read_words(parts[1], lambda word: _read_rule(columns, word))
    keys = read_words(parts[2], lambda word: _read_set(columns, word))
    references = read_words(parts[3], lambda word: _read_reference(columns, word))
    if rules is None or keys is None or references is None:
        return None
    return (columns, rules, keys, references) if is_ascending(rules) and is_ascending(keys) else None


def _read_set(columns, word):
    """Return the set of COLUMNS, of these, that stand together in this word, or None."""
    names = read_names(word)
    return names if _are_columns(columns, names) and is_ascending(names) else None


def _read_rule(columns, word):
    few, _, one = word.partition(">")
    some = _read_set(columns, few)
    return (some, one) if some is not None and one in columns else None


def _read_reference(columns, word):
    """Return the REFERENCE with just this word, from some of these COLUMNS to whatever key, or None."""
    # Where a sign is missing, what ought to stand behind it is empty, and no NAMES are.
    before, _, rest = word.partition(":")
    here, _, there = rest.partition("=")
    number, names, key = read_number(before), read_names(here), read_names(there)
    if number is None or number < 0 or key is None or not is_ascending(key):
        return None
    if not _are_columns(columns, names) or len(set(names)) != len(names):
        return None
    return (number, names, key) if len(key) == len(names) else None


def _refers_well(sheets, number):
    """Tell whether the REFERENCES of this SHEET are to KEYS of SHEETS behind it, ascending, one to each."""
    others = [other for other, _, _ in sheets[number][3]]
    if not is_ascending(others) or not all([number < other < len(sheets) for other in others]):
        return False
    return all([key in sheets[other][2] for other, _, key in sheets[number][3]])


def read_tables(schema, text):
    """Return the TABLES of this SCHEMA with just this text, whether they keep it or not."""
    schema, lines, tables = frozen(schema), text.split("\n"), []
    for number, line in enumerate(lines):
        rows = read_rows(schema, number, line) if number < len(schema) else None
        if rows is None:
            raise BadLine(number)
        tables.append(rows)
    if len(tables) < len(schema):
        raise BadLine(len(tables))
    return tuple(tables)


def read_question(schema, text):
    """Return the QUESTION of this SCHEMA with just this text."""
    schema, question = frozen(schema), []
    for piece, part in enumerate(text.split(BETWEEN_PARTS)):
        read = _read_question_part(piece, part)
        # What is not read yet is taken as nothing, which fits whatever is.
        whole = (*question, read, (), ())
        if read is None or not is_question(schema, whole[:3]):
            raise BadText(piece)
        question.append(read)
    if len(question) < 3:
        raise BadText(len(question))
    return tuple(question)


def _read_question_part(piece, part):
    if piece == 0:
        return read_words(part, read_number)
    if piece == 1:
        return read_words(part, _read_link)
    return read_words(part, read_name) if piece == 2 else None


def _read_link(word):
    return read_all(word.split("="), read_name)


def read_deal(schema, text):
    """Return the DEAL of this SCHEMA with just this text."""
    deal = []
    for piece, word in enumerate(text.split(" ")):
        if piece >= len(schema) or (word != NOTHING and not _are_columns(schema[piece][0], read_names(word))):
            raise BadText(piece)
        deal.append(None if word == NOTHING else read_names(word))
    if len(deal) < len(schema):
        raise BadText(len(deal))
    return tuple(deal)


def _are_columns(columns, names):
    """Tell whether names, None if they were not well written, are all among these COLUMNS."""
    return names is not None and all([name in columns for name in names])


def read_dealing(text):
    """Return the DEALING with just this text."""
    dealing = []
    for piece, part in enumerate(text.split(BETWEEN_PARTS)):
        read = _read_dealing_part(piece, part)
        whole = (*dealing, read, ())
        if read is None or not is_dealing(whole[:2]):
            raise BadText(piece)
        dealing.append(read)
    if len(dealing) < 2:
        raise BadText(len(dealing))
    return tuple(dealing)


def _read_dealing_part(piece, part):
    if piece == 0:
        return read_number(part)
    return read_words(part, _read_told) if piece == 1 else None


def _read_told(word):
    """Return the pair of NAMES and a HOUSE with just this word, with None for what is not well written."""
    before, _, after = word.partition(":")
    return (read_names(before), read_number(after))


def read_deeds(schema, text):
    """Return the tuple of the DEEDS of this SCHEMA with just this text."""
    schema, deeds = frozen(schema), []
    lines = text.split("\n") if text else []
    for number, line in enumerate(lines):
        deed = read_deed(schema, line)
        if deed is None:
            raise BadLine(number)
        deeds.append(deed)
    return tuple(deeds)
