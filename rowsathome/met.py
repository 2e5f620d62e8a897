"""MEETINGS: which there are, what they show, and the amounts that come together.

The ROWS may have NAMES or marks. The SCHEMAS may be wider than those of the document: COLUMNS may be any strings.
"""


def all_meetings(schema, tables, question):
    """Return the ascending list of the MEETINGS of this QUESTION."""
    chosen, links, _ = question
    found = [()]
    for many in range(len(chosen)):
        found = _lengthened(schema, tables, chosen[:many + 1], links, found)
    return found


def _lengthened(schema, tables, chosen, links, starts):
    """Return starts, each with each place in the last chosen SHEET at which LINKS to the others hold."""
    ties = _ties(schema, chosen, links)
    places = {}
    for place, row in enumerate(tables[chosen[-1]]):
        places.setdefault(tuple([row[tie[2]] for tie in ties]), []).append(place)
    longer = []
    for start in starts:
        wanted = tuple([tables[chosen[tie[0]]][start[tie[0]]][tie[1]] for tie in ties])
        longer.extend([(*start, place) for place in places.get(wanted, [])])
    return longer


def _ties(schema, chosen, links):
    """Return a triple for each LINK of the last chosen SHEET to one of the others.

    It has the place of the other one among chosen, and the places of the COLUMNS of that one and of the last.
    """
    last = schema[chosen[-1]][0]
    ties = []
    for at, number in enumerate(chosen[:-1]):
        columns = schema[number][0]
        for one, other in links:
            if one in columns and other in last:
                ties.append((at, columns.index(one), last.index(other)))
            elif other in columns and one in last:
                ties.append((at, columns.index(other), last.index(one)))
    return ties


def spots_of(schema, chosen, some):
    """Return, for each of some COLUMNS, the place of its SHEET among the chosen ones, and its own place there."""
    spots = {}
    for at, number in enumerate(chosen):
        columns = schema[number][0]
        for column in columns:
            spots[column] = (at, columns.index(column))
    return [spots[column] for column in some]


def seen_at(tables, chosen, meeting, spots):
    """Return the tuple of what this MEETING has at these spots."""
    return tuple([tables[chosen[at]][meeting[at]][place] for at, place in spots])


def all_lots(schema, tables, question):
    """Return the list, for each MEETING, ascending, of the pair of what it shows and its worth."""
    chosen, _, groups = question
    spots = spots_of(schema, chosen, groups)
    # SHEET 0 is always the first chosen one, and a worth stands behind all NAMES.
    return [
        (seen_at(tables, chosen, meeting, spots), tables[0][meeting[0]][-1])
        for meeting in all_meetings(schema, tables, question)
    ]


def gathered(word, lots):
    """Return the answer by this WORD of lots: what is shown, a worth, and how often it comes, maybe 0 times."""
    amounts = {}
    for names, worth, many in lots:
        if many > 0:
            amount = _amount(word, worth, many)
            amounts[names] = _both(word, amounts[names], amount) if names in amounts else amount
    return tuple(sorted([(names, amounts[names]) for names in amounts]))


def _amount(word, worth, many):
    if word == "sum":
        return worth * many
    return many if word == "number" else worth


def _both(word, one, other):
    if word == "least":
        return min(one, other)
    return max(one, other) if word == "greatest" else one + other
