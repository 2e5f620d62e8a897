"""ROWS that are dealt to HOUSES: by which names they go, and which of them stand together."""

from rowsathome.lookups import picked


def is_dealt_in(deal, numbers):
    """Tell whether one of these SHEETS is dealt."""
    return any([deal[number] is not None for number in numbers])


def dealt_names(schema, deal, number, row):
    """Return what a ROW, or the marks of one, of this dealt SHEET has in the COLUMNS of the DEAL."""
    return picked(schema[number][0], row, deal[number])


def are_dealt_alike(schema, deal, rows):
    """Tell whether those of these ROWS, pairs (number, marks), that are of dealt SHEETS go by the same names."""
    names = [dealt_names(schema, deal, number, marks) for number, marks in rows if deal[number] is not None]
    return len(set(names)) < 2


def scattered(schema, deal, tables):
    """Return a DEALING that sends all ROWS of dealt SHEETS that go by unlike names to unlike HOUSES."""
    dealt = [number for number in range(len(schema)) if deal[number] is not None]
    names = sorted(set([dealt_names(schema, deal, number, row) for number in dealt for row in tables[number]]))
    # One of them can stay untold: it goes to HOUSE 0.
    return (max(1, len(names)), tuple([(names[house], house) for house in range(1, len(names))]))


def homes_in(schema, deal, dealing, tables):
    """Return for each SHEET None if it is copied, otherwise the list of the HOUSES of its ROWS."""
    told = dict(dealing[1])
    homes = []
    for number, rows in enumerate(tables):
        if deal[number] is None:
            homes.append(None)
        else:
            homes.append([told.get(dealt_names(schema, deal, number, row), 0) for row in rows])
    return homes


def houses_with(houses, homes, spots):
    """Return the list of the HOUSES, of so many, in which the ROWS at all these spots, (number, place), are."""
    found = [homes[number][place] for number, place in spots if homes[number] is not None]
    if not found:
        return list(range(houses))
    return [found[0]] if found.count(found[0]) == len(found) else []


def rows_of_house(homes, tables, house):
    """Return the TABLES of just the ROWS in this HOUSE."""
    parts = []
    for number, rows in enumerate(tables):
        if homes[number] is None:
            parts.append(rows)
        else:
            parts.append(tuple([row for row, home in zip(rows, homes[number]) if home == house]))
    return tuple(parts)
