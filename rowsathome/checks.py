"""Checks at home: what is safe in the TABLES if each HOUSE looks at its own ROWS alone."""

from itertools import permutations

from rowsathome.deals import is_dealing, is_paper_pair
from rowsathome.dealt import are_dealt_alike, dealt_names, homes_in, houses_with, rows_of_house
from rowsathome.errors import Unfit
from rowsathome.hands import name_of, row_hand, with_places
from rowsathome.lookups import need_sheet, others_of, picked, put_at
from rowsathome.shapes import frozen, is_tuple_of
from rowsathome.tables import broken_keys, broken_rules, is_tables, keeps
from rowsathome.unfolding import leads_among, pictured

# COLUMNS that no SHEET has: the two HOUSES that are looked at, and that of the ROW.
FIRST = "first house"
SECOND = "second house"
OWN = "own house"


def houses_keep(schema, tables, deal, dealing):
    """Return the tuple that tells for each HOUSE whether its ROWS keep the SCHEMA."""
    return tuple(_houses_keep(frozen(schema), frozen(tables), frozen(deal), frozen(dealing)))


def _houses_keep(schema, tables, deal, dealing):
    homes = homes_in(schema, deal, dealing, tables)
    return [keeps(schema, rows_of_house(homes, tables, house)) for house in range(dealing[0])]


def is_enough(schema, deal, number, part):
    """Tell whether this RULE or KEY is kept in all TABLES of which all HOUSES keep."""
    schema, deal, part = frozen(schema), frozen(deal), frozen(part)
    _need_part(schema, number, part)
    return _blind_rows(schema, deal, number, part) is None


def _need_part(schema, number, part):
    need_sheet(schema, number)
    if part not in schema[number][1] and part not in schema[number][2]:
        raise Unfit()


def _blind_rows(schema, deal, number, part):
    """Return ROWS of the housed SCHEMA that stand against this RULE or KEY though all HOUSES keep, or None."""
    if deal[number] is None:
        return None
    columns, _, keys, _ = schema[number]
    is_key = part in keys
    few = part if is_key else part[0]
    one = (*columns, FIRST, SECOND, FIRST)
    # Names of the second ROW that are its own: no name of the first one is a tuple.
    other = (*[column if column in few else (column,) for column in columns], FIRST, SECOND, SECOND)
    ties = [(at, names, OWN) for at, names in enumerate(deal) if names is not None]
    rows, places = pictured(_housed(schema, deal), ((number, one), (number, other)), ties)
    told = columns if is_key else (part[1],)
    seen = [picked(columns, rows[place][1], told) for place in places]
    return None if seen[0] == seen[1] else rows


def _housed(schema, deal):
    """Return the SCHEMA, wider than those of the document, of ROWS that stand in two HOUSES.

    All ROWS tell these two, and those of dealt SHEETS their own one. Its RULES and KEYS are those that HOUSES keep, its
    REFERENCES lead to ROWS in the same HOUSE, from ROWS that are in both HOUSES to a ROW in each.
    """
    return tuple([_housed_sheet(schema, deal, number) for number in range(len(schema))])


def _housed_sheet(schema, deal, number):
    columns, rules, keys, references = schema[number]
    own = () if deal[number] is None else (OWN,)
    further = []
    for other, names, key in references:
        if deal[other] is None:
            further.append((other, (*names, FIRST, SECOND), (*key, FIRST, SECOND)))
        else:
            starts = (FIRST, SECOND) if deal[number] is None else (OWN,)
            further.extend([(other, (*names, FIRST, SECOND, start), (*key, FIRST, SECOND, OWN)) for start in starts])
    return (
        (*columns, FIRST, SECOND, *own),
        tuple([((*few, *own), one) for few, one in rules]),
        tuple([(*key, FIRST, SECOND, *own) for key in keys]),
        tuple(further),
    )


def blind_rules(schema, deal):
    """Return the ascending list of the pairs (number, rule) of the RULES that are not enough."""
    return _blind_parts(frozen(schema), frozen(deal), 1)


def blind_keys(schema, deal):
    """Return the ascending list of the pairs (number, key) of the KEYS that are not enough."""
    return _blind_parts(frozen(schema), frozen(deal), 2)


def _blind_parts(schema, deal, at):
    """Return the list of the pairs (number, part) of what is not enough of the members at this place of SHEETS."""
    parts = [(number, part) for number, sheet in enumerate(schema) for part in sheet[at]]
    return [(number, part) for number, part in parts if _blind_rows(schema, deal, number, part) is not None]


def a_blind_spot(schema, deal, number, part):
    """Return TABLES and a DEALING by which all HOUSES keep, though two ROWS stand against part, or None."""
    schema, deal, part = frozen(schema), frozen(deal), frozen(part)
    _need_part(schema, number, part)
    rows = _blind_rows(schema, deal, number, part)
    if rows is None:
        return None
    tables = with_places(schema, [(at, marks[:len(schema[at][0])]) for at, marks in rows])
    # The last two marks of ROWS of dealt SHEETS are the second HOUSE and their own one.
    seconds = [row for row in rows if deal[row[0]] is not None and row[1][-2] == row[1][-1]]
    return (tables, (2, _sent(sorted(set([_names_of(schema, deal, row) for row in seconds])))))


def _names_of(schema, deal, row):
    """Return the NAMES by which this ROW of a PICTURE, of a dealt SHEET, goes to a HOUSE."""
    return tuple([name_of(mark) for mark in dealt_names(schema, deal, row[0], row[1])])


def _sent(members):
    """Return what is told by a DEALING that sends each of these tuples of NAMES to HOUSE 1."""
    return tuple([(names, 1) for names in members])


def is_blind_spot(schema, deal, number, part, thing):
    """Tell whether thing is a pair as a_blind_spot returns it."""
    schema, deal, part = frozen(schema), frozen(deal), frozen(part)
    _need_part(schema, number, part)
    if not is_tuple_of(thing, 2) or not is_tables(schema, thing[0]) or not is_dealing(thing[1]):
        return False
    tables, dealing = thing
    if part not in broken_rules(schema, tables) and (number, part) not in broken_keys(schema, tables):
        return False
    return all(_houses_keep(schema, tables, deal, dealing))


def is_fair(schema, deal, number, other):
    """Tell whether, FOR ALL TABLES and DEALINGS, each ROW with this REFERENCE has the ROW it refers to at home."""
    schema, deal = frozen(schema), frozen(deal)
    _need_reference(schema, number, other)
    return _unfair_rows(schema, deal, number, other) is None


def _need_reference(schema, number, other):
    need_sheet(schema, number)
    need_sheet(schema, other)
    if other not in others_of(schema, number):
        raise Unfit()


def _unfair_rows(schema, deal, number, other):
    """Return, if the REFERENCE is not fair, the ROWS of the PICTURE of one ROW and the place of that it refers to."""
    if deal[other] is None:
        return None
    rows, _ = pictured(schema, row_hand(schema, number))
    place = leads_among(schema, rows)[0][others_of(schema, number).index(other)]
    if deal[number] is not None and are_dealt_alike(schema, deal, [rows[0], rows[place]]):
        return None
    return rows, place


def unfair_references(schema, deal):
    """Return the ascending list of the pairs (number, other) of the REFERENCES that are not fair."""
    schema, deal = frozen(schema), frozen(deal)
    pairs = [(number, other) for number in range(len(schema)) for other in others_of(schema, number)]
    return [(number, other) for number, other in pairs if _unfair_rows(schema, deal, number, other) is not None]


def a_false_alarm(schema, deal, number, other):
    """Return TABLES that keep and a DEALING by which a HOUSE has a ROW, but not the one it refers to, or None."""
    schema, deal = frozen(schema), frozen(deal)
    _need_reference(schema, number, other)
    found = _unfair_rows(schema, deal, number, other)
    if found is None:
        return None
    rows, place = found
    # A ROW of a copied SHEET is in both of two HOUSES, that it refers to in one: wherever that is.
    return (with_places(schema, rows), (2, _sent([_names_of(schema, deal, rows[place])])))


def is_false_alarm(schema, deal, number, other, thing):
    """Tell whether thing is a pair as a_false_alarm returns it."""
    schema, deal = frozen(schema), frozen(deal)
    _need_reference(schema, number, other)
    if not is_paper_pair(schema, thing):
        return False
    tables, (houses, told) = thing
    homes = homes_in(schema, deal, (houses, told), tables)
    for at, row in enumerate(tables[number]):
        mate = _referred_place(schema, tables, number, row, other)
        there = houses_with(houses, homes, [(other, mate)])
        if not all([house in there for house in houses_with(houses, homes, [(number, at)])]):
            return True
    return False


def _referred_place(schema, tables, number, row, other):
    """Return the place of the ROW of the SHEET other to which this ROW, of TABLES that keep the SCHEMA, refers."""
    _, names, key = schema[number][3][others_of(schema, number).index(other)]
    wanted = picked(schema[number][0], row, names)
    return [picked(schema[other][0], mate, key) for mate in tables[other]].index(wanted)


def good_deals(schema, deal, number):
    """Return the ascending list of the tuples of COLUMNS dealt by which, with this SHEET, all is enough and fair."""
    schema, deal = frozen(schema), frozen(deal)
    need_sheet(schema, number)
    columns, found = list(schema[number][0]), []
    for many in range(len(columns) + 1):
        for some in permutations(columns, many):
            if _is_good(schema, put_at(deal, number, some)):
                found.append(some)
    return sorted(found)


def _is_good(schema, deal):
    if unfair_references(schema, deal):
        return False
    return not _blind_parts(schema, deal, 1) and not _blind_parts(schema, deal, 2)
