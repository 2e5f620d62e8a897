"""Felt COLUMNS: those by a change of which alone an answer can change."""

from itertools import combinations

from rowsathome.hands import row_hand, with_ones
from rowsathome.lookups import column_sheets, need_columns, need_word, picked
from rowsathome.partings import parting_rows
from rowsathome.schemas import columns_of
from rowsathome.shapes import frozen, is_tuple_of
from rowsathome.tables import answer, is_tables, keeps
from rowsathome.unfolding import pictured

# What stands behind the name of a COLUMN that stands for the second time: no NAME is such a string.
AGAIN = " again"


def are_alike_but(schema, one, other, some):
    """Tell whether the ROWS of both TABLES can be paired such that each two differ in some COLUMNS alone."""
    schema, one, other, some = frozen(schema), frozen(one), frozen(other), frozen(some)
    need_columns(schema, some)
    return _are_alike_but(schema, one, other, some)


def _are_alike_but(schema, one, other, some):
    for number, sheet in enumerate(schema):
        # The place behind all COLUMNS is that of the worth.
        places = [place for place, column in enumerate(sheet[0]) if column not in some]
        places.extend([len(sheet[0])] if number == 0 else [])
        if _seen_in(one[number], places) != _seen_in(other[number], places):
            return False
    return True


def _seen_in(rows, places):
    return sorted([tuple([row[place] for place in places]) for row in rows])


def fixed_columns(schema, some):
    """Return the set of those of these COLUMNS that are fixed among them."""
    schema, some = frozen(schema), frozen(some)
    need_columns(schema, some)
    twins, sheets = _twins(schema, some), column_sheets(schema)
    double = _doubled(schema, twins)
    marks = {number: _marks_of_row(double, number) for number in [sheets[column] for column in some]}
    return tuple([column for column in some if marks[sheets[column]][column] == marks[sheets[column]][twins[column]]])


def _marks_of_row(schema, number):
    """Return a dict that has for each COLUMN of this SHEET its mark in the PICTURE of one ROW."""
    rows, _ = pictured(schema, row_hand(schema, number))
    return dict(zip(schema[number][0], rows[0][1]))


def _twins(schema, some):
    """Return a dict that has for each COLUMN the one that stands for it in the second TABLES of a pair."""
    return {column: column + AGAIN if column in some else column for column in columns_of(schema)}


def _doubled(schema, twins):
    """Return the SCHEMA, wider than those of the document, of pairs of TABLES that are alike but where twins differ."""
    return tuple([_doubled_sheet(schema, number, twins) for number in range(len(schema))])


def _doubled_sheet(schema, number, twins):
    columns, rules, keys, references = schema[number]
    # ROWS of SHEET 0 may be alike but for their worths, those of other SHEETS differ in some COLUMN in both TABLES.
    whole = keys if number == 0 else (*keys, columns)
    again = [(other, _again(twins, names), _again(twins, key)) for other, names, key in references]
    return (
        _with_new(columns, _again(twins, columns)),
        _with_new(rules, [(_again(twins, few), twins[one]) for few, one in rules]),
        _with_new(whole, [_again(twins, key) for key in whole]),
        _with_new(references, again),
    )


def _again(twins, columns):
    return tuple([twins[column] for column in columns])


def _with_new(members, others):
    return (*members, *[other for other in others if other not in members])


def feels(schema, question, some, word):
    """Tell whether the QUESTION feels these COLUMNS by this WORD."""
    need_word(word)
    schema, question, some = frozen(schema), frozen(question), frozen(some)
    need_columns(schema, some)
    return _felt_rows(schema, question, some, word) is not None


def _felt_rows(schema, question, some, word):
    """Return ROWS of the doubled SCHEMA in which the QUESTION has unlike answers both ways, or None."""
    twins = _twins(schema, some)
    chosen, links, groups = question
    again = (chosen, tuple([_again(twins, link) for link in links]), _again(twins, groups))
    return parting_rows(_doubled(schema, twins), question, again, word)


def parting_pair(schema, question, some, word):
    """Return a pair of TABLES that keep the SCHEMA, alike but in some, with unlike answers, or None."""
    need_word(word)
    schema, question, some = frozen(schema), frozen(question), frozen(some)
    need_columns(schema, some)
    rows = _felt_rows(schema, question, some, word)
    if rows is None:
        return None
    twins = _twins(schema, some)
    same = {column: column for column in twins}
    return (_one_of_pair(schema, rows, twins, same), _one_of_pair(schema, rows, twins, twins))


def _one_of_pair(schema, rows, twins, names):
    """Return the TABLES that the ROWS of the doubled SCHEMA have in the COLUMNS that names have for each one."""
    double = _doubled(schema, twins)
    part = [
        (number, picked(double[number][0], marks, _again(names, schema[number][0])))
        for number, marks in rows
    ]
    return with_ones(schema, part)


def is_parting_pair(schema, question, some, word, thing):
    """Tell whether thing is a pair of TABLES as parting_pair returns it."""
    need_word(word)
    schema, question, some = frozen(schema), frozen(question), frozen(some)
    need_columns(schema, some)
    if not is_tuple_of(thing, 2) or not all([is_tables(schema, part) and keeps(schema, part) for part in thing]):
        return False
    one, other = thing
    if not _are_alike_but(schema, one, other, some):
        return False
    return answer(schema, one, question, word) != answer(schema, other, question, word)


def felt_columns(schema, question, word):
    """Return the set of all COLUMNS that the QUESTION feels each by itself."""
    need_word(word)
    return _felt_columns(frozen(schema), frozen(question), word)


def _felt_columns(schema, question, word):
    columns = columns_of(schema)
    return tuple([column for column in columns if _felt_rows(schema, question, (column,), word) is not None])


def felt_pairs(schema, question, word):
    """Return the ascending list of the sets of two COLUMNS that the QUESTION feels, though neither by itself."""
    need_word(word)
    schema, question = frozen(schema), frozen(question)
    felt = _felt_columns(schema, question, word)
    others = [column for column in columns_of(schema) if column not in felt]
    pairs = list(combinations(others, 2))
    return [pair for pair in pairs if _felt_rows(schema, question, pair, word) is not None]
