"""Commits: DEEDS that are done at once, and KINDS of DEEDS that need not wait for one another."""

from itertools import combinations

from rowsathome.deals import house_of, is_dealing
from rowsathome.dealt import are_dealt_alike, dealt_names
from rowsathome.errors import Unfit
from rowsathome.hands import row_hand, row_with, two_rows_hand, with_places
from rowsathome.lookups import others_of, picked, put_at
from rowsathome.shapes import frozen, is_tuple_of
from rowsathome.tables import after, is_deed, is_tables, keeps, need_row
from rowsathome.unfolding import leads_among, pictured

DOINGS = ("put", "take")


def kinds(schema):
    """Return the ascending list of all KINDS."""
    return [(what, number) for what in DOINGS for number in range(len(schema))]


def is_let_now(schema, tables, one):
    """Tell whether this DEED is let: it changes the TABLES, and they keep the SCHEMA behind it."""
    behind = after(schema, tables, one)
    return behind != frozen(tables) and keeps(schema, behind)


def at_once(schema, tables, deeds):
    """Return the TABLES behind these DEEDS, done at once."""
    schema, behind, deeds = frozen(schema), frozen(tables), frozen(deeds)
    for _, number, row in deeds:
        need_row(schema, number, row)
    for what in ("take", "put"):
        for deed in deeds:
            behind = after(schema, behind, deed) if deed[0] == what else behind
    return behind


def breaking_pairs(schema, tables, deeds):
    """Return the ascending list of the pairs of places of two DEEDS that at once lead to TABLES that do not keep."""
    pairs = list(combinations(range(len(deeds)), 2))
    return [
        (one, other) for one, other in pairs
        if not keeps(schema, at_once(schema, tables, (deeds[one], deeds[other])))
    ]


def are_apart(schema, deal, dealing, one, other):
    """Tell whether not both DEEDS are of dealt SHEETS, or their ROWS are in unlike HOUSES."""
    schema, deal, dealing = frozen(schema), frozen(deal), frozen(dealing)
    names = [_names_of(schema, deal, frozen(deed)) for deed in (one, other) if deal[deed[1]] is not None]
    return len(names) < 2 or house_of(dealing, names[0]) != house_of(dealing, names[1])


def _names_of(schema, deal, deed):
    """Return the NAMES by which the ROW of this DEED, of a dealt SHEET, goes to a HOUSE."""
    return dealt_names(schema, deal, deed[1], deed[2])


def is_calm(schema, deal, kind, mate):
    """Tell whether, FOR ALL TABLES and DEALINGS, two DEEDS of these KINDS that are apart and let keep at once."""
    return a_clash(schema, deal, kind, mate) is None


def _need_kinds(schema, pairs):
    if not all([what in DOINGS and 0 <= number < len(schema) for what, number in pairs]):
        raise Unfit()


def waits(schema, deal):
    """Return the ascending list of the pairs (kind, mate), kind not behind mate, that are not calm."""
    every = kinds(schema)
    pairs = [(kind, mate) for kind in every for mate in every if kind <= mate]
    return [(kind, mate) for kind, mate in pairs if not is_calm(schema, deal, kind, mate)]


def a_clash(schema, deal, kind, mate):
    """Return TABLES, a DEALING and two DEEDS, apart and let, that at once lead to TABLES that do not keep, or None."""
    schema, deal, kind, mate = frozen(schema), frozen(deal), frozen(kind), frozen(mate)
    _need_kinds(schema, (kind, mate))
    (what, number), (how, other) = kind, mate
    if what == "put" and how == "take":
        return _clash_of_put_and_take(schema, deal, number, other)
    if what == "take" and how == "put":
        found = _clash_of_put_and_take(schema, deal, other, number)
        return None if found is None else (*found[:2], found[3], found[2])
    if what == "put" and number == other:
        return _clash_of_puts(schema, deal, number)
    return None


def _clash_of_puts(schema, deal, number):
    """Return a clash of two DEEDS that put a ROW of this SHEET, or None if there is none."""
    columns, rules, keys, _ = schema[number]
    if number == 0 and deal[0] is None and keys:
        # Two ROWS that have unlike worths alone stand against each KEY.
        rows, _ = pictured(schema, row_hand(schema, 0))
        return _as_clash(schema, deal, rows[1:], _put(rows[0], 0), _put(rows[0], 1))
    parts = [*[(few, (one,)) for few, one in rules], *[(key, columns) for key in keys]]
    for few, told in parts:
        rows = _unlike_rows(schema, deal, number, few, told)
        if rows is not None:
            return _as_clash(schema, deal, rows[2:], _put(rows[0], 0), _put(rows[1], 1))
    return None


def _put(row, worth):
    """Return the DEED that puts this ROW of a PICTURE, with this worth if it is of SHEET 0."""
    return ("put", row[0], row_with(row, worth))


def _unlike_rows(schema, deal, number, few, told):
    """Return the ROWS of a PICTURE whose first two, with the same in few, are unlike in told and may be apart, or None.

    The two ROWS are not in the TABLES together yet, so the RULES and KEYS of their SHEET do not bind them.
    """
    columns, _, _, references = schema[number]
    bare = put_at(schema, number, (columns, (), (), references))
    rows, (one, other) = pictured(bare, two_rows_hand(bare, number, few))
    if picked(columns, rows[one][1], told) == picked(columns, rows[other][1], told):
        return None
    if deal[number] is not None and are_dealt_alike(schema, deal, [rows[one], rows[other]]):
        return None
    return rows


def _clash_of_put_and_take(schema, deal, number, other):
    """Return a clash of a DEED that puts a ROW of this SHEET and one that takes a ROW of other, or None."""
    others = others_of(schema, number)
    if other not in others:
        return None
    rows, _ = pictured(schema, row_hand(schema, number))
    leads = leads_among(schema, rows)
    place = leads[0][others.index(other)]
    if place in [further for part in leads[1:] for further in part]:
        # What is in the TABLES already refers to the ROW, so it can not be taken.
        return None
    are_dealt = deal[number] is not None and deal[other] is not None
    if are_dealt and are_dealt_alike(schema, deal, [rows[0], rows[place]]):
        return None
    # No ROW of SHEET 0 is referred to, so the one that is taken has no worth.
    return _as_clash(schema, deal, rows[1:], _put(rows[0], 0), ("take", other, row_with(rows[place], 0)))


def _as_clash(schema, deal, rows, one, other):
    """Return the clash of these DEEDS in TABLES of these ROWS of a PICTURE, with a DEALING by which they are apart."""
    dealing = (1, ())
    if deal[one[1]] is not None and deal[other[1]] is not None:
        dealing = (2, ((_names_of(schema, deal, other), 1),))
    return (with_places(schema, rows), dealing, one, other)


def is_clash(schema, deal, kind, mate, thing):
    """Tell whether thing is a quadruple as a_clash returns it."""
    schema, deal, kind, mate = frozen(schema), frozen(deal), frozen(kind), frozen(mate)
    _need_kinds(schema, (kind, mate))
    if not is_tuple_of(thing, 4) or not is_tables(schema, thing[0]) or not is_dealing(thing[1]):
        return False
    tables, dealing, one, other = thing
    if not is_deed(schema, one) or not is_deed(schema, other) or one == other:
        return False
    if (one[:2], other[:2]) != (kind, mate) or not keeps(schema, tables):
        return False
    if not are_apart(schema, deal, dealing, one, other):
        return False
    if not is_let_now(schema, tables, one) or not is_let_now(schema, tables, other):
        return False
    return not keeps(schema, at_once(schema, tables, (one, other)))
