"""What stands where in a SCHEMA, and the errors for numbers and strings that stand nowhere."""

from rowsathome.errors import NoColumn, NoSheet, NoWord, Unfit

WORDS = ("sum", "number", "least", "greatest")


def need_word(word):
    """Raise NoWord if this string is no WORD."""
    if word not in WORDS:
        raise NoWord(word)


def column_sheets(schema):
    """Return a dict that has for each COLUMN the number of its SHEET."""
    return {column: number for number, sheet in enumerate(schema) for column in sheet[0]}


def need_sheet(schema, number):
    """Raise NoSheet if no SHEET has this number."""
    if not 0 <= number < len(schema):
        raise NoSheet(number)


def need_columns(schema, names):
    """Raise NoColumn for the first of names that is no COLUMN."""
    sheets = column_sheets(schema)
    for name in names:
        if name not in sheets:
            raise NoColumn(name)


def need_columns_of(schema, number, names):
    """Raise NoSheet, NoColumn or Unfit if names are not all COLUMNS of the SHEET with this number."""
    need_sheet(schema, number)
    need_columns(schema, names)
    if not all([name in schema[number][0] for name in names]):
        raise Unfit()


def need_columns_chosen(schema, question, names):
    """Raise NoColumn or Unfit if names are not all COLUMNS of chosen SHEETS."""
    need_columns(schema, names)
    sheets = column_sheets(schema)
    if not all([sheets[name] in question[0] for name in names]):
        raise Unfit()


def need_chosen(schema, question, numbers):
    """Raise NoSheet or Unfit if these are not all numbers of chosen SHEETS."""
    for number in numbers:
        need_sheet(schema, number)
    if not all([number in question[0] for number in numbers]):
        raise Unfit()


def others_of(schema, number):
    """Return the list of the SHEETS to which this one has REFERENCES, in their order."""
    return [reference[0] for reference in schema[number][3]]


def places_of(columns, some):
    """Return the tuple of the places that some have among these COLUMNS."""
    return tuple([columns.index(name) for name in some])


def picked(columns, row, some):
    """Return the tuple of what row, of a SHEET with these COLUMNS, has in some of them."""
    return tuple([row[columns.index(name)] for name in some])


def put_at(members, place, member):
    """Return the tuple members with member at this place."""
    return (*members[:place], member, *members[place + 1:])
