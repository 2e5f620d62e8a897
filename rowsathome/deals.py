"""DEALS and HOUSES: what stands where, and what is told at home."""

from rowsathome.dealt import are_dealt_alike, homes_in, houses_with, is_dealt_in, rows_of_house, scattered
from rowsathome.errors import NoHouse
from rowsathome.hands import meeting_hand, picture_of_two, with_ones, with_places
from rowsathome.lookups import need_word
from rowsathome.met import all_meetings, gathered, seen_at, spots_of
from rowsathome.shapes import are_names, frozen, is_number, is_set_of, is_tuple_of
from rowsathome.tables import answer, is_tables, keeps
from rowsathome.unfolding import marks_at, pictured, ways_among


def is_dealing(thing):
    """Tell whether thing is a DEALING, of however many HOUSES."""
    if not is_tuple_of(thing, 2):
        return False
    houses, told = thing
    if not is_number(houses) or houses < 1:
        return False
    if not is_set_of(told, lambda part: _is_told(houses, part)):
        return False
    return len(set([names for names, _ in told])) == len(told)


def _is_told(houses, thing):
    if not is_tuple_of(thing, 2):
        return False
    names, house = thing
    if not isinstance(names, tuple) or not are_names(names):
        return False
    return is_number(house) and 0 <= house < houses


def is_paper_pair(schema, thing):
    """Tell whether thing is a pair of TABLES that keep the SCHEMA and a DEALING."""
    if not is_tuple_of(thing, 2):
        return False
    tables, dealing = thing
    return is_tables(schema, tables) and is_dealing(dealing) and keeps(schema, tables)


def house_of(dealing, names):
    """Return the HOUSE to which these NAMES go."""
    told = dict(frozen(dealing)[1])
    return told.get(frozen(names), 0)


def rows_at(schema, tables, deal, dealing, house):
    """Return the TABLES of just the ROWS in this HOUSE."""
    schema, tables, deal, dealing = frozen(schema), frozen(tables), frozen(deal), frozen(dealing)
    if not 0 <= house < dealing[0]:
        raise NoHouse(house)
    return rows_of_house(homes_in(schema, deal, dealing, tables), tables, house)


def houses_of(schema, tables, question, deal, dealing):
    """Return the list, for each MEETING, ascending, of the set of the HOUSES in which it stands."""
    schema, tables, question = frozen(schema), frozen(tables), frozen(question)
    found = _standing(schema, tables, question, frozen(deal), frozen(dealing))
    return [tuple(houses) for _, houses in found]


def _standing(schema, tables, question, deal, dealing):
    """Return the list of the pairs of each MEETING and the list of the HOUSES in which it stands."""
    homes = homes_in(schema, deal, dealing, tables)
    return [
        (meeting, houses_with(dealing[0], homes, list(zip(question[0], meeting))))
        for meeting in all_meetings(schema, tables, question)
    ]


def answers_at(schema, tables, question, word, deal, dealing):
    """Return the list of the answers of the HOUSES, each in its own ROWS."""
    need_word(word)
    schema, tables, question = frozen(schema), frozen(tables), frozen(question)
    return _answers_at(schema, tables, question, word, frozen(deal), frozen(dealing))


def _answers_at(schema, tables, question, word, deal, dealing):
    homes = homes_in(schema, deal, dealing, tables)
    parts = [rows_of_house(homes, tables, house) for house in range(dealing[0])]
    return [answer(schema, part, question, word) for part in parts]


def put_together(word, answers):
    """Return the answer that those of the HOUSES are together."""
    need_word(word)
    return _put_together(word, frozen(answers))


def _put_together(word, answers):
    # Numbers of MEETINGS add up as sums do.
    how = "sum" if word == "number" else word
    return gathered(how, [(names, amount, 1) for told in answers for names, amount in told])


def is_told_at_home(schema, question, word, deal):
    """Tell whether, FOR ALL TABLES and DEALINGS, the answers of the HOUSES put together are the answer."""
    need_word(word)
    schema, question, deal = frozen(schema), frozen(question), frozen(deal)
    return _is_told_in(schema, question, word, deal, _picture_of_meeting(schema, question))


def _picture_of_meeting(schema, question):
    return pictured(schema, meeting_hand(schema, question))


def _is_told_in(schema, question, word, deal, drawn):
    """Tell what is_told_at_home tells, the PICTURE of a MEETING being drawn."""
    rows, places = drawn
    if word in ("sum", "number"):
        alike = are_dealt_alike(schema, deal, [rows[place] for place in places])
        return is_dealt_in(deal, question[0]) and alike
    groups = question[2]
    shown = marks_at(schema, rows, question, places, groups)
    # There is one ROW of SHEET 0 alone in this PICTURE.
    ways = [way for way in ways_among(schema, rows, question) if marks_at(schema, rows, question, way, groups) == shown]
    return any([are_dealt_alike(schema, deal, [rows[place] for place in way]) for way in ways])


def groups_at_home(schema, question, deal):
    """Tell whether, FOR ALL TABLES and DEALINGS, all MEETINGS that show the same stand in one HOUSE."""
    schema, question, deal = frozen(schema), frozen(question), frozen(deal)
    return _scattered_groups(schema, question, deal) is None


def _scattered_groups(schema, question, deal):
    """Return ROWS of the PICTURE of two MEETINGS that show the same if they are not dealt alike, otherwise None."""
    rows, first, second = picture_of_two(schema, question, question[2])
    return None if are_dealt_alike(schema, deal, [rows[place] for place in (*first, *second)]) else rows


def home_paper(schema, question, word, deal):
    """Return TABLES that keep and a DEALING by which the answers put together are not the answer, or None."""
    need_word(word)
    schema, question, deal = frozen(schema), frozen(question), frozen(deal)
    drawn = _picture_of_meeting(schema, question)
    if _is_told_in(schema, question, word, deal, drawn):
        return None
    tables = with_ones(schema, drawn[0])
    if is_dealt_in(deal, question[0]):
        return (tables, scattered(schema, deal, tables))
    # All that is asked is copied, so each of two HOUSES tells the whole answer.
    return (tables, (2, ()))


def is_home_paper(schema, question, word, deal, thing):
    """Tell whether thing is a pair as home_paper returns it."""
    need_word(word)
    schema, question, deal = frozen(schema), frozen(question), frozen(deal)
    if not is_paper_pair(schema, thing):
        return False
    tables, dealing = thing
    together = _put_together(word, _answers_at(schema, tables, question, word, deal, dealing))
    return together != answer(schema, tables, question, word)


def groups_paper(schema, question, deal):
    """Return TABLES that keep the SCHEMA and a DEALING by which groups are not at home, or None."""
    schema, question, deal = frozen(schema), frozen(question), frozen(deal)
    rows = _scattered_groups(schema, question, deal)
    if rows is None:
        return None
    tables = with_places(schema, rows)
    return (tables, scattered(schema, deal, tables))


def is_groups_paper(schema, question, deal, thing):
    """Tell whether thing is a pair as groups_paper returns it."""
    schema, question, deal = frozen(schema), frozen(question), frozen(deal)
    if not is_paper_pair(schema, thing):
        return False
    tables, dealing = thing
    spots, found = spots_of(schema, question[0], question[2]), {}
    for meeting, houses in _standing(schema, tables, question, deal, dealing):
        # MEETINGS that stand in all HOUSES leave as many to the others as there are.
        if len(houses) < dealing[0]:
            names = seen_at(tables, question[0], meeting, spots)
            found[names] = [house for house in houses if house in found.get(names, houses)]
    return any([not found[names] for names in found])


def deals_at_home(schema, question, word):
    """Return the list of the DEALS of chosen SHEETS, by one COLUMN each, by which the QUESTION is told at home."""
    need_word(word)
    schema, question = frozen(schema), frozen(question)
    drawn, deals = _picture_of_meeting(schema, question), [()]
    for number, sheet in enumerate(schema):
        ways = [None, *[(column,) for column in sheet[0]]] if number in question[0] else [None]
        deals = [(*deal, way) for deal in deals for way in ways]
    return [deal for deal in deals if _is_told_in(schema, question, word, deal, drawn)]
