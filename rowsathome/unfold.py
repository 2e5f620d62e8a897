"""Unfoldings: what follows from ROWS in hand, FOR ALL TABLES that hold them."""

from rowsathome.hands import (
    columns_chosen,
    marks_of_columns,
    meeting_hand,
    named,
    picture_of_two,
    row_hand,
    row_with,
    two_hand,
    with_places,
)
from rowsathome.lookups import need_columns_chosen, need_sheet, places_of
from rowsathome.shapes import are_names, frozen, is_number, is_tuple_of
from rowsathome.unfolding import Web, grown_rows, is_still, marks_at, pictured, settle, steps_of, ways_among


def is_hand(schema, thing):
    """Tell whether thing is a HAND, of however many ROWS."""
    return isinstance(thing, tuple) and all([_is_hand_row(schema, part) for part in thing])


def _is_hand_row(schema, thing):
    if not is_tuple_of(thing, 2):
        return False
    number, names = thing
    if not is_number(number) or not 0 <= number < len(schema):
        return False
    return is_tuple_of(names, len(schema[number][0])) and are_names(names)


def grown(schema, hand):
    """Return the tuple of the grown ROWS, with marks for NAMES."""
    return tuple(grown_rows(frozen(schema), frozen(hand)))


def picture(schema, hand):
    """Return the PICTURE of this HAND."""
    return pictured(frozen(schema), frozen(hand))[0]


def places_in(schema, hand):
    """Return the tuple of the places that the ROWS in hand have in the PICTURE."""
    return pictured(frozen(schema), frozen(hand))[1]


def tables_of(schema, hand):
    """Return TABLES of just the ROWS of the PICTURE, each worth the place of its ROW there."""
    schema = frozen(schema)
    return with_places(schema, pictured(schema, frozen(hand))[0])


def are_joins(schema, hand, thing):
    """Tell whether thing is JOINS."""
    schema = frozen(schema)
    web = Web(grown_rows(schema, frozen(hand)))
    return _does_joins(schema, web, thing)


def _does_joins(schema, web, thing):
    """Tell whether thing is JOINS, and if it is, do them in the web."""
    if not isinstance(thing, tuple):
        return False
    for part in thing:
        if not _is_join(schema, web.rows, part) or not _does_join(schema, web, part):
            return False
    return True


def _is_join(schema, rows, thing):
    if not is_tuple_of(thing, 3):
        return False
    one, other, what = thing
    if not is_number(one) or not is_number(other) or not 0 <= one < other < len(rows):
        return False
    _, rules, keys, _ = schema[rows[one][0]]
    return rows[one][0] == rows[other][0] and (what in rules or what in keys)


def _does_join(schema, web, join):
    one, other, what = join
    columns, _, keys, _ = schema[web.rows[one][0]]
    few = places_of(columns, what if what in keys else what[0])
    if web.seen(one, few) != web.seen(other, few):
        return False
    if what in keys:
        web.make_one(one, other)
    else:
        web.bind(one, places_of(columns, what[1:]), other, places_of(columns, what[1:]))
    return True


def all_joins(schema, hand):
    """Return JOINS behind which nothing more becomes alike."""
    schema = frozen(schema)
    return tuple(settle(Web(grown_rows(schema, frozen(hand))), steps_of(schema, ())))


def are_all_joins(schema, hand, thing):
    """Tell whether thing is JOINS behind which nothing more becomes alike."""
    schema = frozen(schema)
    web = Web(grown_rows(schema, frozen(hand)))
    return _does_joins(schema, web, thing) and is_still(web, steps_of(schema, ()))


def ways_in(schema, hand, question):
    """Return the ascending list of the MEETINGS in the PICTURE, each with places of ROWS there."""
    schema = frozen(schema)
    return ways_among(schema, pictured(schema, frozen(hand))[0], frozen(question))


def hand_of_row(schema, number):
    """Return the HAND of one ROW of this SHEET, its NAMES a, b, c."""
    need_sheet(schema, number)
    return named(row_hand(schema, number))


def hand_of_meeting(schema, question):
    """Return the HAND of a MEETING of this QUESTION."""
    return named(meeting_hand(frozen(schema), frozen(question)))


def hand_of_two(schema, question, some):
    """Return the HAND of two MEETINGS of this QUESTION that have the same at some COLUMNS."""
    schema, question, some = frozen(schema), frozen(question), frozen(some)
    need_columns_chosen(schema, question, some)
    return named(two_hand(schema, question, some))


def is_equal(schema, question, column, other):
    """Tell whether each MEETING has the same in both COLUMNS, FOR ALL TABLES."""
    schema, question = frozen(schema), frozen(question)
    need_columns_chosen(schema, question, (column, other))
    marks = marks_of_columns(schema, question)
    return marks[column] == marks[other]


def equal_columns(schema, question):
    """Return the set of the greatest sets of two or more COLUMNS that are equal in each MEETING."""
    marks = marks_of_columns(frozen(schema), frozen(question))
    mates = {}
    for column in sorted(marks):
        mates.setdefault(marks[column], []).append(column)
    return tuple(sorted([tuple(mates[mark]) for mark in mates if len(mates[mark]) > 1]))


def settled(schema, question, some):
    """Return the set of the COLUMNS in which two MEETINGS with the same in some have the same, FOR ALL TABLES."""
    schema, question, some = frozen(schema), frozen(question), frozen(some)
    rows, first, second = _two_with(schema, question, some)
    columns = sorted(columns_chosen(schema, question))
    one, other = marks_at(schema, rows, question, first, columns), marks_at(schema, rows, question, second, columns)
    return tuple([column for column, mark, mate in zip(columns, one, other) if mark == mate])


def settled_rows(schema, question, some):
    """Return the set of the SHEETS of which two MEETINGS with the same in some have one ROW, FOR ALL TABLES."""
    schema, question, some = frozen(schema), frozen(question), frozen(some)
    _, first, second = _two_with(schema, question, some)
    return tuple([number for number, one, other in zip(question[0], first, second) if one == other])


def _two_with(schema, question, some):
    need_columns_chosen(schema, question, some)
    return picture_of_two(schema, question, some)


def apart(schema, question, some):
    """Return TABLES that have no more alike than two MEETINGS with the same in some, and these two MEETINGS."""
    schema, question, some = frozen(schema), frozen(question), frozen(some)
    rows, first, second = _two_with(schema, question, some)
    tables = with_places(schema, rows)
    return tables, _meeting_there(rows, tables, first), _meeting_there(rows, tables, second)


def _meeting_there(rows, tables, places):
    """Return the MEETING in these TABLES, made of the ROWS of a PICTURE, whose ROWS have these places there."""
    return tuple([tables[rows[place][0]].index(row_with(rows[place], place)) for place in places])
