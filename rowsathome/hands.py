"""HANDS of MEETINGS, and TABLES of the ROWS of PICTURES."""

from rowsathome.unfolding import marks_at, numbered, pictured

LETTERS = "abcdefghijklmnopqrstuvwxyz"


def name_of(mark):
    """Return the NAME for this number: a, b, .., z, aa, ab, .."""
    name = ""
    while mark >= 0:
        name = LETTERS[mark % 26] + name
        mark = mark // 26 - 1
    return name


def named(hand):
    """Return the HAND with NAMES for its names of whatever kind: a, b, c, .. as they come first."""
    return tuple([(number, tuple([name_of(mark) for mark in marks])) for number, marks in numbered(hand)])


def row_hand(schema, number):
    """Return the HAND of one ROW of this SHEET, with unlike names."""
    return ((number, schema[number][0]),)


def meeting_hand(schema, question):
    """Return the HAND of a MEETING: a ROW of each chosen SHEET, with one name where LINKS join COLUMNS."""
    chosen, links, _ = question
    mates = _linked(schema, chosen, links)
    return tuple([(number, tuple([mates[column] for column in schema[number][0]])) for number in chosen])


def second_hand(schema, question, some, numbers):
    """Return the HAND of these ROWS of a second MEETING beside that of meeting_hand: it has the same at some."""
    mates = _linked(schema, question[0], question[1])
    shared = {mates[column]: True for column in some}
    names = {column: mates[column] if mates[column] in shared else (mates[column],) for column in mates}
    return tuple([(number, tuple([names[column] for column in schema[number][0]])) for number in numbers])


def two_rows_hand(schema, number, few):
    """Return the HAND of two ROWS of this SHEET that have the same in few, and unlike names elsewhere."""
    columns = schema[number][0]
    # No name of the first ROW is a tuple.
    mate = tuple([column if column in few else (column,) for column in columns])
    return ((number, columns), (number, mate))


def picture_of_two(schema, question, some):
    """Return the ROWS of the PICTURE of two MEETINGS with the same at some, and the places of the ROWS of both."""
    rows, places = pictured(schema, two_hand(schema, question, some))
    many = len(question[0])
    return rows, places[:many], places[many:]


def two_hand(schema, question, some):
    """Return the HAND of two MEETINGS that have the same at some."""
    return (*meeting_hand(schema, question), *second_hand(schema, question, some, question[0]))


def _linked(schema, chosen, links):
    """Return a dict that has for each COLUMN of chosen SHEETS one that stands for all that LINKS join with it."""
    mates = {column: column for number in chosen for column in schema[number][0]}
    for one, other in links:
        old, new = mates[one], mates[other]
        mates = {column: new if mates[column] == old else mates[column] for column in mates}
    return mates


def columns_chosen(schema, question):
    """Return the list of the COLUMNS of chosen SHEETS, SHEET by SHEET."""
    return [column for number in question[0] for column in schema[number][0]]


def marks_of_columns(schema, question):
    """Return a dict that has for each COLUMN of chosen SHEETS its mark in the PICTURE of a MEETING."""
    rows, places = pictured(schema, meeting_hand(schema, question))
    some = columns_chosen(schema, question)
    return dict(zip(some, marks_at(schema, rows, question, places, some)))


def row_with(row, worth):
    """Return this ROW of a PICTURE as one of TABLES, with this worth if it is of SHEET 0."""
    number, marks = row
    names = tuple([name_of(mark) for mark in marks])
    return (*names, worth) if number == 0 else names


def tables_from(schema, rows, worths):
    """Return TABLES of these ROWS of a PICTURE, those of SHEET 0 with the worths at their places."""
    tables = [[] for _ in schema]
    for at, row in enumerate(rows):
        tables[row[0]].append(row_with(row, worths[at]))
    # Two ROWS of SHEET 0 that no KEY has made one are one all the same if their worths are.
    return tuple([tuple(sorted(set(part))) for part in tables])


def with_places(schema, rows):
    """Return TABLES of these ROWS of a PICTURE, each worth the place of its ROW."""
    return tables_from(schema, rows, list(range(len(rows))))


def with_ones(schema, rows):
    """Return TABLES of these ROWS of a PICTURE, all worths 1."""
    return tables_from(schema, rows, [1] * len(rows))
