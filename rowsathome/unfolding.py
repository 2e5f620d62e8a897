"""How a HAND unfolds: the ROWS that grow from it, and what becomes alike in them.

The SCHEMAS and HANDS here may be wider than those of the document: COLUMNS and names may be any values, a SHEET may
have several REFERENCES to another one, and *ties* may join ROWS of unlike SHEETS: each is a triple (number, few, one),
and ROWS of whichever SHEETS that have the same in few, and as many, get the same in one.
"""

from rowsathome.lookups import picked, places_of
from rowsathome.met import all_meetings, spots_of


def numbered(hand):
    """Return the HAND with a mark for each name: 0, 1, 2, .. as they come first."""
    marks, rows = {}, []
    for number, names in hand:
        rows.append((number, tuple([marks.setdefault(name, len(marks)) for name in names])))
    return tuple(rows)


def grown_rows(schema, hand):
    """Return the list of the grown ROWS with their marks."""
    return _grow(schema, hand)[0]


def _grow(schema, hand):
    """Return the list of the grown ROWS, and for each the list of the places of those to which it refers."""
    rows = list(numbered(hand))
    many = _marks_in(rows)
    leads, at = [], 0
    while at < len(rows):
        number, marks = rows[at]
        further = []
        for other, names, key in schema[number][3]:
            told = dict(zip(key, picked(schema[number][0], marks, names)))
            row, many = _referred_row(schema[other][0], told, many)
            further.append((other, row))
        leads.append(list(range(len(rows), len(rows) + len(further))))
        rows.extend(further)
        at += 1
    return rows, leads


def _marks_in(rows):
    return 1 + max([-1, *[mark for _, marks in rows for mark in marks]])


def _referred_row(columns, told, many):
    """Return the marks of a ROW with what is told, new ones from many elsewhere, and the next new one."""
    row = []
    for column in columns:
        if column in told:
            row.append(told[column])
        else:
            row.append(many)
            many += 1
    return tuple(row), many


class Web:
    """Grown ROWS, and what has become alike in them so far."""

    def __init__(self, rows):
        self.rows = rows
        self.leaders = list(range(_marks_in(rows)))
        self.wholes = list(range(len(rows)))

    def places(self, at):
        """Return the places of all marks of this ROW."""
        return tuple(range(len(self.rows[at][1])))

    def seen(self, at, places):
        """Return what this ROW has at these places of its marks: the same for what is alike."""
        marks = self.rows[at][1]
        return tuple([_leader(self.leaders, marks[place]) for place in places])

    def whole(self, at):
        """Return what is the same for ROWS of its SHEET that are one."""
        number = self.rows[at][0]
        # Two ROWS of SHEET 0 may have unlike worths, so they are one only if a KEY has made them one.
        if number == 0:
            return (number, (_leader(self.wholes, at),))
        return (number, self.seen(at, self.places(at)))

    def bind(self, at, ones, mate, others):
        """Make what the one ROW has at ones and the other at others the same, place by place."""
        for one, other in zip(ones, others):
            _unite(self.leaders, self.rows[at][1][one], self.rows[mate][1][other])

    def make_one(self, at, mate):
        """Make two ROWS of one SHEET one."""
        self.bind(at, self.places(at), mate, self.places(mate))
        _unite(self.wholes, at, mate)


def _leader(leaders, member):
    while leaders[member] != member:
        leaders[member] = leaders[leaders[member]]
        member = leaders[member]
    return member


def _unite(leaders, one, other):
    first, second = _leader(leaders, one), _leader(leaders, other)
    leaders[max(first, second)] = min(first, second)


def steps_of(schema, ties):
    """Return the list of what makes things alike: a step for each RULE and KEY, and one for all ties.

    A step is a triple (what, is_key, parts): by a KEY whole ROWS become one; parts have, for the number of a SHEET,
    the places of what ROWS must share, and of what becomes alike then.
    """
    steps = []
    for number, (columns, rules, keys, _) in enumerate(schema):
        for few, one in rules:
            steps.append(((few, one), False, {number: (places_of(columns, few), (columns.index(one),))}))
        for key in keys:
            steps.append((key, True, {number: (places_of(columns, key), tuple(range(len(columns))))}))
    tied = {}
    for number, few, one in ties:
        columns = schema[number][0]
        tied[number] = (places_of(columns, few), (columns.index(one),))
    steps.append((None, False, tied))
    return steps


def settle(web, steps):
    """Take all steps until all is still; return the list of those taken: (one place, another, what)."""
    taken, before = [], -1
    while before < len(taken):
        before = len(taken)
        for step in steps:
            taken.extend(_take(web, step))
    return taken


def is_still(web, steps):
    """Tell whether no step is left to be taken; the web is spent then."""
    return not any([_take(web, step) for step in steps])


def _take(web, step):
    """Take this step wherever it can be taken, and return the list of where: (one place, another, what)."""
    what, is_key, parts = step
    first, taken = {}, []
    for at, (number, _) in enumerate(web.rows):
        if number in parts:
            few, ones = parts[number]
            mate = first.setdefault(web.seen(at, few), at)
            others = parts[web.rows[mate][0]][1]
            if is_key and web.whole(mate) != web.whole(at):
                web.make_one(mate, at)
                taken.append((mate, at, what))
            elif web.seen(mate, others) != web.seen(at, ones):
                web.bind(mate, others, at, ones)
                taken.append((mate, at, what))
    return taken


def pictured(schema, hand, ties=()):
    """Return the ROWS of the PICTURE, a tuple, and the tuple of the places there of the ROWS in hand."""
    rows, leads = _grow(schema, hand)
    web = Web(rows)
    settle(web, steps_of(schema, ties))
    return _drawn(web, leads, len(hand))


def _drawn(web, leads, many):
    places, first, ahead, at = {}, [], list(range(many)), 0
    while at < len(ahead):
        whole = web.whole(ahead[at])
        if whole not in places:
            places[whole] = len(first)
            first.append(ahead[at])
            ahead.extend(leads[ahead[at]])
        at += 1
    drawn = [(web.rows[place][0], web.seen(place, web.places(place))) for place in first]
    return numbered(drawn), tuple([places[web.whole(place)] for place in range(many)])


def leads_among(schema, rows):
    """Return, for each of these ROWS of a PICTURE, the list of the places of those to which it refers."""
    found = {}
    for at, (number, marks) in enumerate(rows):
        for key in schema[number][2]:
            found[(number, key, picked(schema[number][0], marks, key))] = at
    return [_led_from(schema, found, row) for row in rows]


def _led_from(schema, found, row):
    number, marks = row
    columns, references = schema[number][0], schema[number][3]
    return [found[(other, key, picked(columns, marks, names))] for other, names, key in references]


def reached_places(leads):
    """Return for each place the list of itself and of all places to which it leads, step by step."""
    return [_reached_from(leads, at) for at in range(len(leads))]


def _reached_from(leads, start):
    reached, ahead = [], [start]
    while ahead:
        at = ahead.pop()
        if at not in reached:
            reached.append(at)
            ahead.extend(leads[at])
    return reached


def ways_among(schema, rows, question):
    """Return the ascending list of the MEETINGS in these ROWS of a PICTURE, each with places among these ROWS."""
    places = [[at for at, row in enumerate(rows) if row[0] == number] for number in range(len(schema))]
    tables = [[rows[at][1] for at in part] for part in places]
    return [
        tuple([places[number][at] for number, at in zip(question[0], meeting)])
        for meeting in all_meetings(schema, tables, question)
    ]


def marks_at(schema, rows, question, way, some):
    """Return the tuple of what this way, places of ROWS of a PICTURE for the chosen SHEETS, has at some COLUMNS."""
    spots = spots_of(schema, question[0], some)
    return tuple([rows[way[at]][1][place] for at, place in spots])
