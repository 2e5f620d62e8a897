"""Fans: to how many MEETINGS a PART of a QUESTION goes on."""

from itertools import combinations

from rowsathome.errors import NoWord
from rowsathome.hands import marks_of_columns, meeting_hand, second_hand, with_places
from rowsathome.lookups import need_chosen, places_of
from rowsathome.met import all_meetings
from rowsathome.shapes import frozen
from rowsathome.tables import is_tables, keeps
from rowsathome.unfolding import pictured, ways_among

ENDS = ("least", "most")


def ways_on(schema, question, tables, some):
    """Return the ascending tuple of the pairs (PART, many) of all PARTS and how many MEETINGS each goes on to."""
    schema, question, tables, some = frozen(schema), frozen(question), frozen(tables), frozen(some)
    need_chosen(schema, question, some)
    return _ways_on(schema, question, tables, some)


def _ways_on(schema, question, tables, some):
    counts = {part: 0 for part in all_meetings(schema, tables, _part_question(schema, question, some))}
    places = places_of(question[0], some)
    for meeting in all_meetings(schema, tables, question):
        counts[tuple([meeting[place] for place in places])] += 1
    return tuple(sorted([(part, counts[part]) for part in counts]))


def _part_question(schema, question, some):
    """Return what is asked of a PART alone: the SHEETS of some, with the LINKS told between these."""
    columns = [column for number in some for column in schema[number][0]]
    links = [link for link in question[1] if link[0] in columns and link[1] in columns]
    return (some, tuple(links), ())


def fan(schema, question, some):
    """Return the pair of 0 or 1 and of 1 or None: the least and the most MEETINGS to which a PART goes on."""
    schema, question, some = frozen(schema), frozen(question), frozen(some)
    need_chosen(schema, question, some)
    return _fan(schema, question, some)


def _fan(schema, question, some):
    least = 1 if _rows_without_way(schema, question, some) is None else 0
    most = 1 if _rows_with_two_ways(schema, question, some) is None else None
    return (least, most)


def fans(schema, question):
    """Return the tuple of the fans by each single chosen SHEET, in their order."""
    schema, question = frozen(schema), frozen(question)
    return tuple([_fan(schema, question, (number,)) for number in question[0]])


def _rows_without_way(schema, question, some):
    """Return the ROWS of the PICTURE of a PART alone if it goes on to no MEETING there, otherwise None."""
    rows, places = pictured(schema, meeting_hand(schema, _part_question(schema, question, some)))
    at = places_of(question[0], some)
    ways = [way for way in ways_among(schema, rows, question) if tuple([way[place] for place in at]) == places]
    return None if ways else rows


def _rows_with_two_ways(schema, question, some):
    """Return the ROWS of the PICTURE of two MEETINGS with the same PART if they are two there, otherwise None."""
    rows, first, second = picture_of_both(schema, question, some)
    return None if first == second else rows


def picture_of_both(schema, question, some):
    """Return the ROWS of the PICTURE of two MEETINGS with the same PART, and the places of the ROWS of both."""
    chosen = question[0]
    columns = [column for number in some for column in schema[number][0]]
    others = tuple([number for number in chosen if number not in some])
    hand = (*meeting_hand(schema, question), *second_hand(schema, question, columns, others))
    rows, places = pictured(schema, hand)
    first, further = places[:len(chosen)], places[len(chosen):]
    second = [
        first[at] if number in some else further[others.index(number)]
        for at, number in enumerate(chosen)
    ]
    return rows, first, tuple(second)


def fan_paper(schema, question, some, end):
    """Return TABLES that keep the SCHEMA in which some PART goes on to none, to two or more MEETINGS, or None."""
    schema, question, some = frozen(schema), frozen(question), frozen(some)
    _need_fan(schema, question, some, end)
    if end == "least":
        rows = _rows_without_way(schema, question, some)
    else:
        rows = _rows_with_two_ways(schema, question, some)
    return None if rows is None else with_places(schema, rows)


def _need_fan(schema, question, some, end):
    need_chosen(schema, question, some)
    if end not in ENDS:
        raise NoWord(end)


def is_fan_paper(schema, question, some, end, thing):
    """Tell whether thing is TABLES as fan_paper returns them."""
    schema, question, some = frozen(schema), frozen(question), frozen(some)
    _need_fan(schema, question, some, end)
    if not is_tables(schema, thing) or not keeps(schema, thing):
        return False
    counts = [many for _, many in _ways_on(schema, question, thing, some)]
    return 0 in counts if end == "least" else max([0, *counts]) > 1


def told_by(schema, question, some):
    """Return the set of the SHEETS in which two MEETINGS with the same PART have the same ROW, FOR ALL TABLES."""
    schema, question, some = frozen(schema), frozen(question), frozen(some)
    need_chosen(schema, question, some)
    return _told_by(schema, question, some)


def _told_by(schema, question, some):
    _, first, second = picture_of_both(schema, question, some)
    return tuple([number for number, one, other in zip(question[0], first, second) if one == other])


def alike_columns(schema, question):
    """Return the set of the pairs of COLUMNS that have the same in each MEETING, FOR ALL TABLES."""
    marks = marks_of_columns(frozen(schema), frozen(question))
    columns = sorted(marks)
    return tuple([pair for pair in combinations(columns, 2) if marks[pair[0]] == marks[pair[1]]])


def fewest_telling(schema, question):
    """Return as few chosen SHEETS as can be that tell the ROWS of all; of several such sets the least."""
    schema, question = frozen(schema), frozen(question)
    chosen = list(question[0])
    for many in range(len(chosen)):
        for some in combinations(chosen, many):
            if _told_by(schema, question, some) == question[0]:
                return some
    return question[0]
