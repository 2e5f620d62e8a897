"""Copies of TABLES that were changed apart: their MERGE, whether it keeps, and whether answers add up."""

from rowsathome.commits import a_clash, is_calm, kinds
from rowsathome.hands import meeting_hand, with_ones
from rowsathome.lookups import need_sheet
from rowsathome.shapes import frozen, is_tuple_of
from rowsathome.tables import after, answer, deeds_to, is_tables, keeps
from rowsathome.unfolding import leads_among, pictured, reached_places


def changed_by(schema, first, one):
    """Return the least set of KINDS by which this copy of first is changed."""
    return tuple(sorted(set([(what, number) for what, number, _ in deeds_to(schema, first, one)])))


def are_changed_apart(schema, first, one, other):
    """Tell whether no ROW is put into both copies of first, or taken from both."""
    mates = deeds_to(schema, first, other)
    return not any([deed in mates for deed in deeds_to(schema, first, one)])


def merged(schema, first, one, other):
    """Return the MERGE of two copies beside first."""
    return merged_all(schema, first, (one, other))


def merged_all(schema, first, copies):
    """Return the MERGE of these copies beside first."""
    first, copies = frozen(first), frozen(copies)
    tables = []
    for number in range(len(schema)):
        left = [row for row in first[number] if all([row in copy[number] for copy in copies])]
        come = [row for copy in copies for row in copy[number] if row not in first[number]]
        tables.append(tuple(sorted(set((*left, *come)))))
    return tuple(tables)


def _need_sheets(schema, pairs):
    for _, number in pairs:
        need_sheet(schema, number)


def _copied(schema):
    """Return the DEAL by which all SHEETS are copied."""
    return (None,) * len(schema)


def stands_against(schema, kind, rival):
    """Tell whether some MERGE of two copies that keep, changed by the one KIND and by the other, does not."""
    _need_sheets(schema, (kind, rival))
    return not is_calm(schema, _copied(schema), kind, rival)


def kinds_beside(schema, mine):
    """Return the set of all KINDS against which no KIND of mine stands."""
    _need_sheets(schema, mine)
    return tuple([kind for kind in kinds(schema) if not any([stands_against(schema, one, kind) for one in mine])])


def merges_keep(schema, mine, its):
    """Tell whether, FOR ALL COPIES changed by mine and by its, the MERGE keeps the SCHEMA."""
    return merge_paper(schema, mine, its) is None


def merge_paper(schema, mine, its):
    """Return TABLES and two copies of them, changed by mine and by its, whose MERGE does not keep, or None."""
    _need_sheets(schema, (*mine, *its))
    for kind in mine:
        for rival in its:
            clash = a_clash(schema, _copied(schema), kind, rival)
            if clash is not None:
                first, _, one, other = clash
                return (first, after(schema, first, one), after(schema, first, other))
    return None


def is_merge_paper(schema, mine, its, thing):
    """Tell whether thing is a triple as merge_paper returns it."""
    _need_sheets(schema, (*mine, *its))
    return _are_copies(schema, mine, its, thing) and not keeps(schema, _merged_of(schema, thing))


def _are_copies(schema, mine, its, thing):
    """Tell whether thing is TABLES and two copies of them, changed by mine and by its, and all three keep."""
    if not is_tuple_of(thing, 3) or not all([is_tables(schema, part) and keeps(schema, part) for part in thing]):
        return False
    first, one, other = thing
    return _is_changed_so(schema, mine, first, one) and _is_changed_so(schema, its, first, other)


def _is_changed_so(schema, some, first, one):
    return all([kind in frozen(some) for kind in changed_by(schema, first, one)])


def _merged_of(schema, copies):
    first, one, other = copies
    return merged(schema, first, one, other)


def do_add(schema, question, first, one, other):
    """Tell whether the answers by "number" add up in these TABLES and copies."""
    whole, mine, its, old = [
        dict(answer(schema, tables, question, "number"))
        for tables in (merged(schema, first, one, other), one, other, first)
    ]
    names = [*whole, *mine, *its, *old]
    return all([
        whole.get(shown, 0) == mine.get(shown, 0) + its.get(shown, 0) - old.get(shown, 0)
        for shown in names
    ])


def adds_up(schema, question, mine, its):
    """Tell whether answers add up FOR ALL COPIES that are changed apart and whose MERGE keeps the SCHEMA."""
    return adds_paper(schema, question, mine, its) is None


def adds_paper(schema, question, mine, its):
    """Return TABLES and two copies, changed apart, with a MERGE that keeps, whose answers do not add up, or None."""
    schema, question, mine, its = frozen(schema), frozen(question), frozen(mine), frozen(its)
    _need_sheets(schema, (*mine, *its))
    rows, places = pictured(schema, meeting_hand(schema, question))
    leading = _leading_places(schema, rows)
    for one in places:
        for other in places:
            how, mate = _change_of(rows, leading[one], mine), _change_of(rows, leading[other], its)
            is_apart = not any([place in leading[other] for place in leading[one]])
            if is_apart and how is not None and mate is not None:
                return _copies_of(schema, rows, (how, leading[one]), (mate, leading[other]))
    return None


def _leading_places(schema, rows):
    """Return for each of these ROWS of a PICTURE the list of the places of those that are it or lead to it."""
    reached = reached_places(leads_among(schema, rows))
    return [[at for at in range(len(rows)) if place in reached[at]] for place in range(len(rows))]


def _change_of(rows, places, some):
    """Return "put" if the ROWS at these places can all be put by some KINDS, "take" if all taken, otherwise None."""
    for what in ("put", "take"):
        if all([(what, rows[place][0]) in some for place in places]):
            return what
    return None


def _copies_of(schema, rows, mine, its):
    """Return TABLES of these ROWS and two copies of them.

    Each of mine and its is a pair: what is done in the one copy, in the other one, with the ROWS at which places.
    """
    first = _tables_without(schema, rows, (*_places_if("put", mine), *_places_if("put", its)))
    one = _tables_without(schema, rows, (*_places_if("take", mine), *_places_if("put", its)))
    other = _tables_without(schema, rows, (*_places_if("put", mine), *_places_if("take", its)))
    return (first, one, other)


def _places_if(what, change):
    return change[1] if change[0] == what else []


def _tables_without(schema, rows, places):
    return with_ones(schema, [row for at, row in enumerate(rows) if at not in places])


def is_adds_paper(schema, question, mine, its, thing):
    """Tell whether thing is a triple as adds_paper returns it."""
    _need_sheets(schema, (*mine, *its))
    if not _are_copies(schema, mine, its, thing):
        return False
    first, one, other = thing
    if not are_changed_apart(schema, first, one, other) or not keeps(schema, _merged_of(schema, thing)):
        return False
    return not do_add(schema, question, first, one, other)
