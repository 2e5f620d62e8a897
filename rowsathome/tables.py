"""TABLES of a SCHEMA: whether they keep it, their ROWS, DEEDS in them, MEETINGS and answers."""

from rowsathome.errors import Unfit
from rowsathome.lookups import need_columns_of, need_sheet, need_word, picked, put_at
from rowsathome.met import all_lots, all_meetings, gathered, seen_at, spots_of
from rowsathome.shapes import are_names, frozen, is_number, is_set_of, is_tuple_of


def is_row(schema, number, thing):
    """Tell whether thing is a ROW of the SHEET with this number."""
    need_sheet(schema, number)
    return _fits_row(schema, number, thing)


def _fits_row(schema, number, thing):
    many = len(schema[number][0])
    if number > 0:
        return is_tuple_of(thing, many) and are_names(thing)
    return is_tuple_of(thing, many + 1) and are_names(thing[:many]) and is_number(thing[many])


def is_tables(schema, thing):
    """Tell whether thing is TABLES of this SCHEMA, of however many ROWS."""
    if not is_tuple_of(thing, len(schema)):
        return False
    return all([_fits_rows(schema, number, rows) for number, rows in enumerate(thing)])


def _fits_rows(schema, number, thing):
    return is_set_of(thing, lambda row: _fits_row(schema, number, row))


def keeps(schema, tables):
    """Tell whether the TABLES keep the SCHEMA."""
    if broken_rules(schema, tables) or broken_keys(schema, tables):
        return False
    return not broken_references(schema, tables)


def broken_rules(schema, tables):
    """Return the set of the RULES against which two ROWS stand."""
    schema, tables = frozen(schema), frozen(tables)
    broken = []
    for sheet, rows in zip(schema, tables):
        broken.extend([rule for rule in sheet[1] if breaks_rule(sheet[0], rows, rule)])
    return tuple(sorted(broken))


def breaks_rule(columns, rows, rule):
    """Tell whether two of these ROWS, of a SHEET with these COLUMNS, stand against a pair (few, one)."""
    few, one = rule
    place = columns.index(one)
    told = {}
    for row in rows:
        if told.setdefault(picked(columns, row, few), row[place]) != row[place]:
            return True
    return False


def broken_keys(schema, tables):
    """Return the set of the pairs (number, key) of a SHEET and a KEY that two of its ROWS share."""
    schema, tables = frozen(schema), frozen(tables)
    broken = []
    for number, sheet in enumerate(schema):
        rows = tables[number]
        broken.extend([(number, key) for key in sheet[2] if breaks_key(sheet[0], rows, key)])
    return tuple(sorted(broken))


def breaks_key(columns, rows, key):
    """Tell whether two of these ROWS, of a SHEET with these COLUMNS, have the same in key."""
    return len(set([picked(columns, row, key) for row in rows])) < len(rows)


def broken_references(schema, tables):
    """Return the set of the pairs (number, other) of a SHEET of which some ROW finds no ROW of other."""
    schema, tables = frozen(schema), frozen(tables)
    broken = []
    for number, sheet in enumerate(schema):
        for other, names, key in sheet[3]:
            there = {picked(schema[other][0], mate, key): True for mate in tables[other]}
            if not all([picked(sheet[0], row, names) in there for row in tables[number]]):
                broken.append((number, other))
    return tuple(sorted(broken))


def _found_by(schema, tables, columns, row, reference):
    """Return the pairs of the SHEET's number and a ROW of it that row, with these COLUMNS, finds by reference."""
    other, names, key = reference
    wanted = picked(columns, row, names)
    return [(other, mate) for mate in tables[other] if picked(schema[other][0], mate, key) == wanted]


def rows_with(schema, tables, number, columns, names):
    """Return the set of the ROWS of this SHEET that have these names in these COLUMNS."""
    schema, tables, columns, names = frozen(schema), frozen(tables), frozen(columns), frozen(names)
    need_columns_of(schema, number, columns)
    if len(names) != len(columns):
        raise Unfit()
    return tuple([row for row in tables[number] if picked(schema[number][0], row, columns) == names])


def led_to(schema, tables, number, row):
    """Return the set of the pairs (number, row) to which this ROW, that stands there, refers step by step."""
    schema, tables, row = frozen(schema), frozen(tables), frozen(row)
    _need_standing(schema, tables, number, row)
    return _reached(schema, tables, (number, row), _referred_by)


def leading_to(schema, tables, number, row):
    """Return the set of the pairs (number, row) that refer to this ROW, that stands there, step by step."""
    schema, tables, row = frozen(schema), frozen(tables), frozen(row)
    _need_standing(schema, tables, number, row)
    return _reached(schema, tables, (number, row), _referring_to)


def need_row(schema, number, row):
    """Raise NoSheet or Unfit if row is no ROW of the SHEET with this number."""
    need_sheet(schema, number)
    if not _fits_row(schema, number, row):
        raise Unfit()


def _need_standing(schema, tables, number, row):
    need_row(schema, number, row)
    if row not in tables[number]:
        raise Unfit()


def _reached(schema, tables, start, step):
    """Return the set of what is reached from start by one step or more."""
    reached, ahead = {}, [start]
    while ahead:
        pairs = step(schema, tables, ahead.pop())
        for pair in pairs:
            if pair not in reached:
                reached[pair] = True
                ahead.append(pair)
    return tuple(sorted(reached))


def _referred_by(schema, tables, pair):
    number, row = pair
    columns, references = schema[number][0], schema[number][3]
    return [mate for reference in references for mate in _found_by(schema, tables, columns, row, reference)]


def _referring_to(schema, tables, pair):
    pairs = [(at, row) for at, rows in enumerate(tables) for row in rows]
    return [mate for mate in pairs if pair in _referred_by(schema, tables, mate)]


def is_deed(schema, thing):
    """Tell whether thing is a DEED."""
    if not is_tuple_of(thing, 3):
        return False
    what, number, row = thing
    if what not in ("put", "take") or not is_number(number) or not 0 <= number < len(schema):
        return False
    return _fits_row(schema, number, row)


def after(schema, tables, deed):
    """Return the TABLES behind this DEED."""
    return _behind(frozen(schema), frozen(tables), frozen(deed))


def after_all(schema, tables, deeds):
    """Return the TABLES behind these DEEDS, done one behind another."""
    schema, behind = frozen(schema), frozen(tables)
    for deed in frozen(deeds):
        behind = _behind(schema, behind, deed)
    return behind


def _behind(schema, tables, deed):
    what, number, row = deed
    need_row(schema, number, row)
    rows = [mate for mate in tables[number] if mate != row]
    if what == "put":
        rows.append(row)
    return put_at(tables, number, tuple(sorted(rows)))


def keeps_after(schema, tables, deed):
    """Tell whether the TABLES behind this DEED keep the SCHEMA."""
    return keeps(schema, after(schema, tables, deed))


def deeds_to(schema, one, other):
    """Return the set of as few DEEDS as lead from the TABLES one to the TABLES other."""
    one, other = frozen(one), frozen(other)
    deeds = []
    for number in range(len(schema)):
        deeds.extend([("take", number, row) for row in one[number] if row not in other[number]])
        deeds.extend([("put", number, row) for row in other[number] if row not in one[number]])
    return tuple(sorted(deeds))


def meetings(schema, tables, question):
    """Return the ascending list of the MEETINGS of this QUESTION."""
    return all_meetings(frozen(schema), frozen(tables), frozen(question))


def shown(schema, tables, question, meeting):
    """Return the tuple of the NAMES that this MEETING shows at GROUPS."""
    schema, tables, question = frozen(schema), frozen(tables), frozen(question)
    meeting = frozen(meeting)
    if not is_meeting(schema, tables, question, meeting):
        raise Unfit()
    return seen_at(tables, question[0], meeting, spots_of(schema, question[0], question[2]))


def is_meeting(schema, tables, question, meeting):
    """Tell whether this tuple of numbers is a MEETING of this QUESTION."""
    chosen, links, _ = question
    if len(meeting) != len(chosen):
        return False
    if not all([0 <= place < len(tables[number]) for number, place in zip(chosen, meeting)]):
        return False
    pairs = [seen_at(tables, chosen, meeting, spots_of(schema, chosen, link)) for link in links]
    return all([one == other for one, other in pairs])


def answer(schema, tables, question, word):
    """Return the answer of this QUESTION by this WORD."""
    need_word(word)
    schema, tables, question = frozen(schema), frozen(tables), frozen(question)
    return gathered(word, [(names, worth, 1) for names, worth in all_lots(schema, tables, question)])
