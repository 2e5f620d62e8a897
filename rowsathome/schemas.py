"""SCHEMAS, QUESTIONS and DEALS: what is one, and SCHEMAS with something more or less."""

from rowsathome.errors import Known, NoColumn, Unfit
from rowsathome.lookups import column_sheets, need_columns, need_columns_of, need_sheet, put_at
from rowsathome.shapes import frozen, is_ascending, is_name, is_number, is_set_of, is_tuple_of


def is_schema(thing):
    """Tell whether thing is a SCHEMA, of however many SHEETS."""
    if not isinstance(thing, tuple) or not thing:
        return False
    if not all([_is_sheet_but_references(sheet) for sheet in thing]):
        return False
    columns = [column for sheet in thing for column in sheet[0]]
    if len(set(columns)) != len(columns):
        return False
    return all([_has_references(thing, number) for number in range(len(thing))])


def _is_sheet_but_references(thing):
    # REFERENCES can be judged only when all SHEETS are known to have COLUMNS and KEYS.
    if not is_tuple_of(thing, 4):
        return False
    columns, rules, keys, _ = thing
    if not is_set_of(columns, is_name) or not columns:
        return False
    if not is_set_of(rules, lambda rule: _is_rule(columns, rule)):
        return False
    return is_set_of(keys, lambda key: _is_set_in(columns, key))


def _is_rule(columns, thing):
    return is_tuple_of(thing, 2) and _is_set_in(columns, thing[0]) and thing[1] in columns


def _is_set_in(columns, thing):
    return is_set_of(thing, lambda part: part in columns)


def _has_references(schema, number):
    references = schema[number][3]
    if not isinstance(references, tuple):
        return False
    if not all([_is_reference(schema, number, thing) for thing in references]):
        return False
    # If their numbers ascend, they do so themselves, and none is to one SHEET with another.
    return is_ascending([reference[0] for reference in references])


def _is_reference(schema, number, thing):
    if not is_tuple_of(thing, 3):
        return False
    other, columns, key = thing
    if not is_number(other) or not number < other < len(schema):
        return False
    if key not in schema[other][2] or not is_tuple_of(columns, len(key)):
        return False
    return all([column in schema[number][0] for column in columns]) and len(set(columns)) == len(columns)


def is_question(schema, thing):
    """Tell whether thing is a QUESTION of this SCHEMA."""
    schema = frozen(schema)
    if not is_tuple_of(thing, 3) or not _is_choice(schema, thing[0]):
        return False
    chosen, links, groups = thing
    sheets = {column: number for number in chosen for column in schema[number][0]}
    if not is_set_of(groups, lambda column: isinstance(column, str) and column in sheets):
        return False
    return is_set_of(links, lambda link: _is_link(sheets, link))


def _is_choice(schema, thing):
    return is_set_of(thing, is_number) and len(thing) > 0 and thing[0] == 0 and thing[-1] < len(schema)


def _is_link(sheets, thing):
    if not is_tuple_of(thing, 2) or not all([isinstance(part, str) and part in sheets for part in thing]):
        return False
    one, other = thing
    return one < other and sheets[one] != sheets[other]


def is_deal(schema, thing):
    """Tell whether thing is a DEAL of this SCHEMA."""
    schema = frozen(schema)
    if not is_tuple_of(thing, len(schema)):
        return False
    return all([part is None or _is_tuple_in(sheet[0], part) for sheet, part in zip(schema, thing)])


def _is_tuple_in(columns, thing):
    return isinstance(thing, tuple) and all([part in columns for part in thing])


def columns_of(schema):
    """Return the set of all COLUMNS."""
    return tuple(sorted([column for sheet in schema for column in sheet[0]]))


def sheet_of(schema, column):
    """Return the number of the SHEET of this COLUMN."""
    sheets = column_sheets(schema)
    if column not in sheets:
        raise NoColumn(column)
    return sheets[column]


def with_rule(schema, rule):
    """Return the SCHEMA with this RULE, maybe it is there already."""
    schema, rule = frozen(schema), frozen(rule)
    number = _sheet_of_rule(schema, rule)
    columns, rules, keys, references = schema[number]
    return put_at(schema, number, (columns, _with_member(rules, rule), keys, references))


def without_rule(schema, rule):
    """Return the SCHEMA without this RULE."""
    schema, rule = frozen(schema), frozen(rule)
    number = _sheet_of_rule(schema, rule)
    columns, rules, keys, references = schema[number]
    if rule not in rules:
        raise Unfit()
    return put_at(schema, number, (columns, _without_member(rules, rule), keys, references))


def _sheet_of_rule(schema, rule):
    few, one = rule
    need_columns(schema, (*few, one))
    sheets = column_sheets(schema)
    if not all([sheets[column] == sheets[one] for column in few]):
        raise Unfit()
    return sheets[one]


def _with_member(members, member):
    return tuple(sorted(set((*members, member))))


def _without_member(members, member):
    return tuple([mate for mate in members if mate != member])


def with_key(schema, number, key):
    """Return the SCHEMA with this KEY of the SHEET with this number, maybe it is there already."""
    schema, key = frozen(schema), frozen(key)
    need_columns_of(schema, number, key)
    columns, rules, keys, references = schema[number]
    return put_at(schema, number, (columns, rules, _with_member(keys, key), references))


def without_key(schema, number, key):
    """Return the SCHEMA without this KEY of the SHEET with this number, to which no REFERENCE may be."""
    schema, key = frozen(schema), frozen(key)
    need_columns_of(schema, number, key)
    columns, rules, keys, references = schema[number]
    if key not in keys or (number, key) in _referred_keys(schema):
        raise Unfit()
    return put_at(schema, number, (columns, rules, _without_member(keys, key), references))


def _referred_keys(schema):
    return [(other, key) for sheet in schema for other, _, key in sheet[3]]


def with_reference(schema, number, reference):
    """Return the SCHEMA with this REFERENCE of the SHEET with this number, which has none to that SHEET yet."""
    schema, reference = frozen(schema), frozen(reference)
    other, names, key = reference
    need_sheet(schema, number)
    need_sheet(schema, other)
    need_columns(schema, (*names, *key))
    columns, rules, keys, references = schema[number]
    # No duplicates are taken out here: a REFERENCE that is there already makes this no SCHEMA.
    longer = tuple(sorted([*references, reference]))
    changed = put_at(schema, number, (columns, rules, keys, longer))
    if not is_schema(changed):
        raise Unfit()
    return changed


def without_reference(schema, number, other):
    """Return the SCHEMA without the REFERENCE of the SHEET with this number to the SHEET other."""
    schema = frozen(schema)
    need_sheet(schema, number)
    need_sheet(schema, other)
    columns, rules, keys, references = schema[number]
    left = tuple([reference for reference in references if reference[0] != other])
    if left == references:
        raise Unfit()
    return put_at(schema, number, (columns, rules, keys, left))


def with_sheet(schema, sheet):
    """Return the SCHEMA with this SHEET, that has no REFERENCES, behind all others."""
    schema, sheet = frozen(schema), frozen(sheet)
    sheets = column_sheets(schema)
    for column in sheet[0]:
        if column in sheets:
            raise Known(column)
    return (*schema, sheet)


def without_sheet(schema, number):
    """Return the SCHEMA without this SHEET, that may not be SHEET 0, and to which no REFERENCE may be."""
    schema = frozen(schema)
    need_sheet(schema, number)
    if number == 0 or number in [other for other, _ in _referred_keys(schema)]:
        raise Unfit()
    rest = (*schema[:number], *schema[number + 1:])
    return tuple([_without_number(sheet, number) for sheet in rest])


def _without_number(sheet, number):
    columns, rules, keys, references = sheet
    moved = [(other - 1 if other > number else other, names, key) for other, names, key in references]
    return (columns, rules, keys, tuple(moved))


def renamed(schema, pairs):
    """Return the SCHEMA with the second NAME of each pair in the place of its first one, all at once."""
    schema = frozen(schema)
    names = {column: column for column in column_sheets(schema)}
    for first, second in pairs:
        if first in names:
            names[first] = second
    if len(set(list(names.values()))) != len(names):
        raise Unfit()
    return tuple([_renamed_sheet(names, sheet) for sheet in schema])


def _renamed_sheet(names, sheet):
    columns, rules, keys, references = sheet
    return (
        _renamed_set(names, columns),
        tuple(sorted([(_renamed_set(names, few), names[one]) for few, one in rules])),
        tuple(sorted([_renamed_set(names, key) for key in keys])),
        tuple([_renamed_reference(names, reference) for reference in references]),
    )


def _renamed_set(names, some):
    return tuple(sorted([names[column] for column in some]))


def _renamed_reference(names, reference):
    other, columns, key = reference
    mates = sorted([(names[there], names[here]) for there, here in zip(key, columns)])
    return (other, tuple([mate[1] for mate in mates]), tuple([mate[0] for mate in mates]))


def closed(schema, number, some):
    """Return the set of the COLUMNS of this SHEET that some of it settle by its own RULES and KEYS."""
    schema, some = frozen(schema), frozen(some)
    need_columns_of(schema, number, some)
    columns, rules, keys, _ = schema[number]
    # A KEY settles what RULES from it to each single COLUMN would.
    steps = [*rules, *[(key, column) for key in keys for column in columns]]
    settled = {column: True for column in some}
    # Each round but the last settles a further COLUMN, so as many rounds as COLUMNS are enough.
    for _ in columns:
        for few, one in steps:
            if all([column in settled for column in few]):
                settled[one] = True
    return tuple(sorted(settled))


def referred(schema, number):
    """Return the set of the numbers of the SHEETS to which this one has REFERENCES, step by step."""
    need_sheet(schema, number)
    return _referred(schema, number)


def _referred(schema, number):
    reached = {number: True}
    # REFERENCES are to SHEETS with greater numbers, so one way up reaches all.
    for at in range(number, len(schema)):
        if at in reached:
            for reference in schema[at][3]:
                reached[reference[0]] = True
    return tuple(sorted([at for at in reached if at != number]))


def referring(schema, number):
    """Return the set of the numbers of the SHEETS that refer to this one, step by step."""
    need_sheet(schema, number)
    return tuple([at for at in range(len(schema)) if number in _referred(schema, at)])
