"""PLANS: how HOUSES do a part of a QUESTION at home, and whether its answer comes out all the same."""

from itertools import combinations

from rowsathome.deals import is_paper_pair
from rowsathome.dealt import are_dealt_alike, homes_in, houses_with, is_dealt_in, rows_of_house, scattered
from rowsathome.hands import meeting_hand, with_ones
from rowsathome.lookups import need_word, put_at
from rowsathome.met import all_meetings, gathered, seen_at, spots_of
from rowsathome.partings import parting_rows
from rowsathome.questions import free_sheets, leaves_out, most_sets_left_out, rest_of
from rowsathome.shapes import frozen, is_number, is_set_of, is_tuple_of
from rowsathome.tables import answer
from rowsathome.unfolding import marks_at, pictured, ways_among


def is_plan(schema, question, thing):
    """Tell whether thing is a PLAN."""
    schema, question = frozen(schema), frozen(question)
    if not is_tuple_of(thing, 2):
        return False
    out, tree = thing
    free = free_sheets(schema, question)
    if not is_set_of(out, lambda part: is_number(part) and part in free):
        return False
    if not _is_tree(tree, False):
        return False
    return sorted(_sheets_in(tree)) == [number for number in question[0] if number not in out]


def _is_tree(thing, at_home):
    """Tell whether thing has the form of a TREE, of whichever numbers, without homes if it is in one."""
    if is_number(thing):
        return True
    if is_tuple_of(thing, 3):
        return thing[0] == "join" and _is_tree(thing[1], at_home) and _is_tree(thing[2], at_home)
    if not is_tuple_of(thing, 2):
        return False
    if thing[0] == "home":
        return not at_home and _is_tree(thing[1], True)
    return thing[0] == "fold" and _is_tree(thing[1], at_home)


def _sheets_in(tree):
    """Return the list of the numbers in this TREE."""
    if is_number(tree):
        return [tree]
    return [number for part in tree[1:] for number in _sheets_in(part)]


def _home_trees(tree):
    """Return the list of the TREES of which this one has homes."""
    if is_number(tree):
        return []
    if tree[0] == "home":
        return [tree[1]]
    return [home for part in tree[1:] for home in _home_trees(part)]


def homes_of(plan):
    """Return the set of the sets of SHEETS of the homes of this PLAN."""
    return _homes_of(frozen(plan))


def _homes_of(plan):
    return tuple(sorted([tuple(sorted(_sheets_in(tree))) for tree in _home_trees(plan[1])]))


def brought(schema, question, deal, dealing, tables, plan):
    """Return the ascending tuple of the pairs of all MEETINGS of the rest and how often each is brought."""
    schema, question, tables, plan = frozen(schema), frozen(question), frozen(tables), frozen(plan)
    rest = rest_of(schema, question, plan[0])
    return tuple(_brought(schema, rest, frozen(deal), frozen(dealing), tables, _homes_of(plan)))


def _brought(schema, rest, deal, dealing, tables, homes):
    houses = homes_in(schema, deal, dealing, tables)
    found = []
    for meeting in all_meetings(schema, tables, rest):
        many = 1
        for home in homes:
            spots = [spot for spot in zip(rest[0], meeting) if spot[0] in home]
            many = many * len(houses_with(dealing[0], houses, spots))
        found.append((meeting, many))
    return found


def plan_answer(schema, question, word, deal, dealing, tables, plan):
    """Return the answer of the PLAN by this WORD."""
    need_word(word)
    schema, question, tables, plan = frozen(schema), frozen(question), frozen(tables), frozen(plan)
    return _plan_answer(schema, question, word, frozen(deal), frozen(dealing), tables, plan)


def _plan_answer(schema, question, word, deal, dealing, tables, plan):
    rest = rest_of(schema, question, plan[0])
    spots = spots_of(schema, rest[0], rest[2])
    found = _brought(schema, rest, deal, dealing, tables, _homes_of(plan))
    # SHEET 0 is the first chosen one of the rest, too.
    lots = [(seen_at(tables, rest[0], meeting, spots), tables[0][meeting[0]][-1], many) for meeting, many in found]
    return gathered(word, lots)


def handed_on(schema, question, deal, dealing, tables, plan):
    """Return how many things the HOUSES tell, all homes and HOUSES added up."""
    schema, question, deal, dealing = frozen(schema), frozen(question), frozen(deal), frozen(dealing)
    tables, plan = frozen(tables), frozen(plan)
    rest = rest_of(schema, question, plan[0])
    homes = homes_in(schema, deal, dealing, tables)
    parts = [rows_of_house(homes, tables, house) for house in range(dealing[0])]
    return sum([_told_by_house(schema, rest, part, tree) for tree in _home_trees(plan[1]) for part in parts])


def _told_by_house(schema, rest, tables, tree):
    """Return how many things a HOUSE with these ROWS tells of this home."""
    _, links, groups = rest
    numbers = tuple(sorted(_sheets_in(tree)))
    columns = [column for number in numbers for column in schema[number][0]]
    within = [link for link in links if link[0] in columns and link[1] in columns]
    found = all_meetings(schema, tables, (numbers, within, ()))
    if is_number(tree) or tree[0] != "fold":
        return len(found)
    leading = [column for link in links if link not in within for column in link]
    spots = spots_of(schema, numbers, [column for column in (*groups, *leading) if column in columns])
    return len(set([seen_at(tables, numbers, meeting, spots) for meeting in found]))


def is_right(schema, question, word, deal, plan):
    """Tell whether, FOR ALL TABLES and DEALINGS, the answer of the PLAN is that of the QUESTION."""
    need_word(word)
    schema, question, deal, plan = frozen(schema), frozen(question), frozen(deal), frozen(plan)
    return _is_right(schema, question, word, deal, plan)


def _is_right(schema, question, word, deal, plan):
    if not leaves_out(schema, question, plan[0], word):
        return False
    return _rows_for_homes(schema, question, word, deal, plan[0], _homes_of(plan)) is None


def _rows_for_homes(schema, question, word, deal, out, homes):
    """Return, if out can be left out, None if these homes are right, otherwise the ROWS of a PICTURE that shows it."""
    rest = rest_of(schema, question, out)
    if word in ("sum", "number"):
        return _rows_against_sum(schema, rest, deal, homes)
    return _rows_against_least(schema, question, rest, deal, homes)


def _rows_against_sum(schema, rest, deal, homes):
    rows, places = pictured(schema, meeting_hand(schema, rest))
    fits = [is_dealt_in(deal, home) and _is_home_alike(schema, deal, rows, rest, places, home) for home in homes]
    return None if all(fits) else rows


def _rows_against_least(schema, question, rest, deal, homes):
    rows, places = pictured(schema, meeting_hand(schema, question))
    shown = marks_at(schema, rows, question, places, question[2])
    for way in ways_among(schema, rows, rest):
        # There is one ROW of SHEET 0 alone in this PICTURE.
        if marks_at(schema, rows, rest, way, rest[2]) == shown:
            if all([_is_home_alike(schema, deal, rows, rest, way, home) for home in homes]):
                return None
    return rows


def _is_home_alike(schema, deal, rows, rest, way, home):
    return are_dealt_alike(schema, deal, [rows[place] for number, place in zip(rest[0], way) if number in home])


def a_wrong(schema, question, word, deal, plan):
    """Return TABLES that keep the SCHEMA and a DEALING by which the PLAN has another answer, or None."""
    need_word(word)
    schema, question, deal, plan = frozen(schema), frozen(question), frozen(deal), frozen(plan)
    out, homes = plan[0], _homes_of(plan)
    rows = parting_rows(schema, question, rest_of(schema, question, out), word)
    if rows is not None:
        # In one HOUSE alone the PLAN has the answer of the rest.
        return (with_ones(schema, rows), (1, ()))
    rows = _rows_for_homes(schema, question, word, deal, out, homes)
    if rows is None:
        return None
    tables = with_ones(schema, rows)
    if word in ("sum", "number") and not all([is_dealt_in(deal, home) for home in homes]):
        # All that is dealt is in the first of two HOUSES; homes of which nothing is dealt are done in both.
        return (tables, (2, ()))
    return (tables, scattered(schema, deal, tables))


def is_wrong(schema, question, word, deal, plan, thing):
    """Tell whether thing is a pair as a_wrong returns it."""
    need_word(word)
    schema, question, deal, plan = frozen(schema), frozen(question), frozen(deal), frozen(plan)
    if not is_paper_pair(schema, thing):
        return False
    tables, dealing = thing
    told = _plan_answer(schema, question, word, deal, dealing, tables, plan)
    return told != answer(schema, tables, question, word)


def right_homes(schema, question, word, deal):
    """Return the ascending list of the sets of SHEETS of which a single home, nothing left out, is right."""
    need_word(word)
    schema, question, deal = frozen(schema), frozen(question), frozen(deal)
    chosen, found = list(question[0]), []
    for many in range(1, len(chosen) + 1):
        for home in combinations(chosen, many):
            if _rows_for_homes(schema, question, word, deal, (), (home,)) is None:
                found.append(home)
    return sorted(found)


def plan_size(plan):
    """Return the pair of how many SHEETS the TREE has, and how many homes and SHEETS in no home."""
    return _plan_size(frozen(plan))


def _plan_size(plan):
    homes, many = _homes_of(plan), len(_sheets_in(plan[1]))
    return (many, many - sum([len(home) for home in homes]) + len(homes))


def least_size(schema, question, word, deal):
    """Return the least size of a right PLAN."""
    need_word(word)
    return _plan_size(_least_plan(frozen(schema), frozen(question), word, frozen(deal)))


def a_least_plan(schema, question, word, deal):
    """Return a right PLAN of the least size."""
    need_word(word)
    return _least_plan(frozen(schema), frozen(question), word, frozen(deal))


def _least_plan(schema, question, word, deal):
    """Return a right PLAN with as few SHEETS as can be, and, of these, as few parts: homes and SHEETS in none."""
    best = None
    # A PLAN without homes is right if out can be left out, so none that leaves out less can be the least.
    for out in most_sets_left_out(schema, question, word):
        left = [number for number in question[0] if number not in out]
        for parts in _splits(left):
            if best is None or len(parts) < len(best[1]):
                homes = [part for part in parts if len(part) > 1]
                if _rows_for_homes(schema, question, word, deal, out, homes) is None:
                    best = (out, parts)
    return (best[0], _joined([_part_tree(part) for part in best[1]]))


def _splits(numbers):
    """Return the list of all ways to split these numbers into parts."""
    splits = [()]
    for number in numbers:
        longer = [(*split, (number,)) for split in splits]
        for split in splits:
            longer.extend([put_at(split, at, (*part, number)) for at, part in enumerate(split)])
        splits = longer
    return splits


def _part_tree(part):
    """Return a home of these SHEETS, or the one SHEET, for which a home is never better."""
    return part[0] if len(part) == 1 else ("home", _joined(part))


def _joined(trees):
    whole = trees[0]
    for tree in trees[1:]:
        whole = ("join", whole, tree)
    return whole


def is_least_plan(schema, question, word, deal, thing):
    """Tell whether thing is a right PLAN of the least size."""
    need_word(word)
    schema, question, deal = frozen(schema), frozen(question), frozen(deal)
    if not is_plan(schema, question, thing) or not _is_right(schema, question, word, deal, thing):
        return False
    return _plan_size(thing) == _plan_size(_least_plan(schema, question, word, deal))
