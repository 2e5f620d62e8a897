"""What a DEED changes: which answers stay, which can be kept up to date, and which its own ROW tells."""

from rowsathome.commits import is_let_now, kinds
from rowsathome.deals import put_together
from rowsathome.errors import CanNot
from rowsathome.fans import picture_of_both
from rowsathome.hands import meeting_hand, name_of, picture_of_two, row_with, tables_from, with_ones
from rowsathome.lookups import need_sheet, need_word, put_at
from rowsathome.met import all_lots, gathered
from rowsathome.shapes import frozen, is_tuple_of
from rowsathome.tables import after, answer, is_deed, is_tables, keeps, need_row
from rowsathome.unfolding import leads_among, marks_at, pictured, reached_places, ways_among


def lots_of(schema, tables, question, deed):
    """Return the ascending list of the lots of this DEED, one for each MEETING that it brings or takes."""
    schema, tables, question, deed = frozen(schema), frozen(tables), frozen(question), frozen(deed)
    what, number, row = deed
    need_row(schema, number, row)
    if number not in question[0] or (row in tables[number]) == (what == "put"):
        return []
    return sorted(all_lots(schema, put_at(tables, number, (row,)), question))


def _lots_answer(schema, tables, question, word, deed):
    """Return the answer of the lots of this DEED by this WORD."""
    return gathered(word, [(names, worth, 1) for names, worth in lots_of(schema, tables, question, deed)])


def _need_kind(schema, word, kind):
    need_word(word)
    need_sheet(schema, kind[1])


def _is_deed_that_goes(schema, kind, every, deed):
    """Tell whether deed is a DEED of this KIND that goes in each of these TABLES, be they such or not."""
    if not is_deed(schema, deed) or deed[:2] != kind:
        return False
    return all([
        is_tables(schema, tables) and keeps(schema, tables) and is_let_now(schema, tables, deed)
        for tables in every
    ])


def _deed_of(what, row, worth):
    """Return the DEED that puts or takes this ROW of a PICTURE, with this worth if it is of SHEET 0."""
    return (what, row[0], row_with(row, worth))


def _ahead(schema, tables, deed):
    """Return the TABLES ahead of this DEED, of TABLES that have its ROW."""
    return after(schema, tables, ("take", *deed[1:])) if deed[0] == "put" else tables


def _meeting_with(schema, question, number):
    """Return the PICTURE of a MEETING and the places there of its ROWS, or None if none has a ROW of number that goes.

    A ROW that others refer to does not go.
    """
    if number not in question[0]:
        return None
    rows, places = pictured(schema, meeting_hand(schema, question))
    place = places[question[0].index(number)]
    if place in [mate for leads in leads_among(schema, rows) for mate in leads]:
        return None
    return rows, places


def is_unmoved(schema, question, word, kind):
    """Tell whether the answer is the same ahead of and behind each DEED of this KIND, FOR ALL TABLES."""
    schema, question = frozen(schema), frozen(question)
    _need_kind(schema, word, kind)
    return _moved_meeting(schema, question, word, kind[1]) is None


def _moved_meeting(schema, question, word, number):
    """Return what _meeting_with returns if a ROW of this SHEET that goes can move the answer, otherwise None."""
    found = _meeting_with(schema, question, number)
    if found is None or word in ("sum", "number"):
        return found
    rows, places = found
    at, shown = question[0].index(number), marks_at(schema, rows, question, places, question[2])
    others = [way for way in ways_among(schema, rows, question) if way[at] != places[at]]
    # There is one ROW of SHEET 0 alone, so the least and the greatest stay if the same is shown.
    stays = shown in [marks_at(schema, rows, question, way, question[2]) for way in others]
    return None if stays else found


def unmoved_kinds(schema, question, word):
    """Return the tuple of the KINDS by which the answer is unmoved."""
    need_word(word)
    return tuple([kind for kind in kinds(schema) if is_unmoved(schema, question, word, kind)])


def moved_paper(schema, question, word, kind):
    """Return TABLES and a DEED of this KIND that goes in them and moves the answer, or None."""
    schema, question = frozen(schema), frozen(question)
    _need_kind(schema, word, kind)
    what, number = kind
    found = _moved_meeting(schema, question, word, number)
    if found is None:
        return None
    rows, places = found
    deed = _deed_of(what, rows[places[question[0].index(number)]], 1)
    return (_ahead(schema, with_ones(schema, rows), deed), deed)


def is_moved_paper(schema, question, word, kind, thing):
    """Tell whether thing is a pair as moved_paper returns it."""
    _need_kind(schema, word, kind)
    if not is_tuple_of(thing, 2) or not _is_deed_that_goes(schema, frozen(kind), thing[:1], thing[1]):
        return False
    tables, deed = thing
    return answer(schema, tables, question, word) != answer(schema, after(schema, tables, deed), question, word)


def is_kept(schema, question, word, kind, beside):
    """Tell whether what is ahead of a DEED of this KIND, and its lots, tell the answer behind it, FOR ALL TABLES."""
    return kept_paper(schema, question, word, kind, beside) is None


def kept_kinds(schema, question, word, beside):
    """Return the tuple of the KINDS by which the answer is kept."""
    need_word(word)
    return tuple([kind for kind in kinds(schema) if is_kept(schema, question, word, kind, beside)])


def kept_paper(schema, question, word, kind, beside):
    """Return two TABLES, a DEED and what is shown: alike ahead, with alike lots, unlike behind; or None."""
    schema, question = frozen(schema), frozen(question)
    _need_kind(schema, word, kind)
    what, number = kind
    if what == "put" or word == "number" or (word == "sum" and beside):
        return None
    if _moved_meeting(schema, question, "least", number) is None:
        return None
    rows, first, second = picture_of_two(schema, question, question[2])
    at = question[0].index(number)
    if first[at] == second[at]:
        return None
    shown = marks_at(schema, rows, question, first, question[2])
    names = tuple([name_of(mark) for mark in shown])
    if word != "sum" and not _cross(schema, question, rows, shown, first[0], (at, second[at])):
        return (*_pair_with_another_left(schema, rows, word, first[0], first[at]), names)
    return None if beside else (*_pair_with_none_left(schema, rows, first[at], second[at]), names)


def _cross(schema, question, rows, shown, start, spot):
    """Tell whether some MEETING shows this with the ROW of SHEET 0 at start and, of spot, the ROW that goes."""
    at, place = spot
    ways = [way for way in ways_among(schema, rows, question) if way[0] == start and way[at] == place]
    return shown in [marks_at(schema, rows, question, way, question[2]) for way in ways]


def _pair_with_another_left(schema, rows, word, start, place):
    """Return two TABLES of these ROWS, and the DEED that takes one: what is left is unlike by its worth alone.

    The ROW that goes, at place, is in all MEETINGS of the ROW of SHEET 0 at start, and in none of the other one.
    """
    best, left = (1, (2, 3)) if word == "least" else (3, (2, 1))
    one, other = [
        tables_from(schema, rows, [best if at == start else worth for at in range(len(rows))])
        for worth in left
    ]
    return (one, other, _deed_of("take", rows[place], best))


def _pair_with_none_left(schema, rows, place, mate):
    """Return TABLES with and without a ROW that is met where the one at place goes, and the DEED that takes this one.

    What is left adds nothing to a sum. If ROWS of SHEET 0 go, the two need unlike worths to be two at all.
    """
    worths = [1 if at == place else 0 for at in range(len(rows))]
    tables = tables_from(schema, rows, worths)
    fewer = after(schema, tables, _deed_of("take", rows[mate], 0))
    return (fewer, tables, _deed_of("take", rows[place], 1))


def is_kept_paper(schema, question, word, kind, beside, thing):
    """Tell whether thing is a quadruple as kept_paper returns it."""
    _need_kind(schema, word, kind)
    if not is_tuple_of(thing, 4) or not _is_deed_that_goes(schema, frozen(kind), thing[:2], thing[2]):
        return False
    every, deed, shown = thing[:2], thing[2], thing[3]
    told = (word, "number") if beside else (word,)
    ahead = [[_amounts_at(shown, answer(schema, tables, question, how)) for how in told] for tables in every]
    lots = [_amounts_at(shown, lots_of(schema, tables, question, deed)) for tables in every]
    if ahead[0] != ahead[1] or lots[0] != lots[1]:
        return False
    behind = [_amounts_at(shown, answer(schema, after(schema, tables, deed), question, word)) for tables in every]
    return behind[0] != behind[1]


def _amounts_at(shown, pairs):
    """Return the list of what these pairs have for the tuple shown; it may be anything."""
    return [amount for names, amount in pairs if names == shown]


def is_by_row(schema, question, word, kind):
    """Tell whether the lots of a DEED of this KIND have the same answer in all TABLES in which it goes."""
    return row_paper(schema, question, word, kind) is None


def row_paper(schema, question, word, kind):
    """Return two TABLES and a DEED of this KIND that goes in both, its lots having unlike answers there, or None."""
    schema, question = frozen(schema), frozen(question)
    _need_kind(schema, word, kind)
    found = _meeting_with(schema, question, kind[1])
    if found is None:
        return None
    rows, places = found
    place = places[question[0].index(kind[1])]
    pair = _pair_of_rows(schema, question, word, rows, places, place)
    if pair is None:
        return None
    deed = _deed_of(kind[0], rows[place], 1)
    one, other = [_ahead(schema, with_ones(schema, part), deed) for part in pair]
    return (one, other, deed)


def _pair_of_rows(schema, question, word, rows, places, place):
    """Return two lists of ROWS in which the lots of the ROW at place have unlike answers, or None."""
    number, marks = rows[place]
    if number > 0:
        # The ROW with those it leads to has no ROW of SHEET 0.
        return (rows, [rows[at] for at in reached_places(leads_among(schema, rows))[place]])
    shown = marks_at(schema, rows, question, places, question[2])
    if not all([mark in marks for mark in shown]):
        return (rows, _with_new_marks(rows, marks))
    own, _ = pictured(schema, (rows[place],))
    if not ways_among(schema, own, question):
        return (rows, own)
    if word in ("sum", "number"):
        two, first, second = picture_of_both(schema, question, (0,))
        return None if first == second else (two, own)
    return None


def _with_new_marks(rows, marks):
    """Return these ROWS with a new mark in the place of each that is not among marks."""
    many = 1 + max([mark for _, part in rows for mark in part])
    return [
        (number, tuple([mark if mark in marks else many + mark for mark in part]))
        for number, part in rows
    ]


def is_row_paper(schema, question, word, kind, thing):
    """Tell whether thing is a triple as row_paper returns it."""
    _need_kind(schema, word, kind)
    if not is_tuple_of(thing, 3) or not _is_deed_that_goes(schema, frozen(kind), thing[:2], thing[2]):
        return False
    one, other, deed = thing
    return _lots_answer(schema, one, question, word, deed) != _lots_answer(schema, other, question, word, deed)


def row_answer(schema, question, word, deed):
    """Return the answer of the lots of this DEED in all TABLES in which it goes."""
    need_word(word)
    schema, question, deed = frozen(schema), frozen(question), frozen(deed)
    what, number, row = deed
    need_row(schema, number, row)
    if not is_by_row(schema, question, word, (what, number)):
        raise CanNot()
    found = _meeting_with(schema, question, number)
    if found is None:
        return ()
    rows, places = found
    told = dict(zip(rows[0][1], row))
    if not all([told[mark] == name for mark, name in zip(rows[0][1], row)]):
        # In a MEETING some COLUMNS have the same in which this ROW has not.
        return ()
    shown = marks_at(schema, rows, question, places, question[2])
    return gathered(word, [(tuple([told[mark] for mark in shown]), row[-1], 1)])


def renewed(schema, question, word, kind, kept, numbers, lots):
    """Return the answer behind a DEED of this KIND, from that ahead of it and its lots."""
    if not is_kept(schema, question, word, kind, numbers is not None):
        raise CanNot()
    kept, numbers, lots = frozen(kept), frozen(numbers), frozen(lots)
    told = gathered(word, [(names, worth, 1) for names, worth in lots])
    if kind[0] == "put":
        return put_together(word, (kept, told))
    counts = dict(gathered("number", [(names, worth, 1) for names, worth in lots]))
    if word == "number" or numbers is not None:
        ahead = dict(kept if word == "number" else numbers)
        gone = [names for names in counts if ahead.get(names) == counts[names]]
    else:
        # Either something else that shows the same is always left, or nothing ever is.
        gone = [] if is_unmoved(schema, question, "least", kind) else list(counts)
    less = dict(told) if word in ("sum", "number") else {}
    return tuple([(names, amount - less.get(names, 0)) for names, amount in kept if names not in gone])
