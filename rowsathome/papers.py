"""PAPERS against PROMISES: a value with which what is promised is not so, and what judges one."""

from rowsathome.checks import a_blind_spot, a_false_alarm, is_blind_spot, is_false_alarm
from rowsathome.commits import a_clash, is_clash
from rowsathome.deals import groups_paper, home_paper, is_groups_paper, is_home_paper
from rowsathome.fans import fan_paper, is_fan_paper
from rowsathome.felt import is_parting_pair, parting_pair
from rowsathome.hands import two_rows_hand, with_places
from rowsathome.lookups import column_sheets, picked
from rowsathome.met import seen_at, spots_of
from rowsathome.plans import a_wrong, is_wrong
from rowsathome.questions import is_parting, parting_tables, rest_of
from rowsathome.shapes import is_number, is_tuple_of
from rowsathome.tables import breaks_key, breaks_rule, is_meeting, is_tables, keeps
from rowsathome.unfold import apart, is_equal, settled, settled_rows
from rowsathome.unfolding import pictured


def paper_against(schema, promise):
    """Return a PAPER against this PROMISE, or None if it holds."""
    word, members = promise[0], promise[1:]
    match word:
        case "rule":
            return _rule_paper(schema, *members)
        case "key":
            return _key_paper(schema, *members)
        case "equal":
            return _equal_paper(schema, *members)
        case "settles":
            return _settles_paper(schema, *members)
        case "least" | "most":
            return fan_paper(schema, *members, word)
        case "same":
            return parting_tables(schema, *members)
        case "out":
            question, some, how = members
            return parting_tables(schema, question, rest_of(schema, question, some), how)
        case "unfelt":
            return parting_pair(schema, *members)
        case "plan":
            return a_wrong(schema, *members)
        case "told":
            return home_paper(schema, *members)
        case "groups":
            return groups_paper(schema, *members)
        case "enough":
            return a_blind_spot(schema, *members)
        case "fair":
            return a_false_alarm(schema, *members)
        case _:
            return a_clash(schema, *members)


def judged(schema, promise, thing):
    """Tell whether thing is a PAPER against this PROMISE."""
    word, members = promise[0], promise[1:]
    match word:
        case "rule":
            return _is_rule_paper(schema, *members, thing)
        case "key":
            return _is_key_paper(schema, *members, thing)
        case "equal":
            return _is_equal_paper(schema, *members, thing)
        case "settles":
            return _is_settles_paper(schema, *members, thing)
        case "least" | "most":
            return is_fan_paper(schema, *members, word, thing)
        case "same":
            return is_parting(schema, *members, thing)
        case "out":
            question, some, how = members
            return is_parting(schema, question, rest_of(schema, question, some), how, thing)
        case "unfelt":
            return is_parting_pair(schema, *members, thing)
        case "plan":
            return is_wrong(schema, *members, thing)
        case "told":
            return is_home_paper(schema, *members, thing)
        case "groups":
            return is_groups_paper(schema, *members, thing)
        case "enough":
            return is_blind_spot(schema, *members, thing)
        case "fair":
            return is_false_alarm(schema, *members, thing)
        case _:
            return is_clash(schema, *members, thing)


def _rule_paper(schema, rule):
    """Return TABLES in which two ROWS stand against this pair, be it a RULE or not, or None."""
    few, one = rule
    number = column_sheets(schema)[one]
    rows, places = pictured(schema, two_rows_hand(schema, number, few))
    seen = [picked(schema[number][0], rows[place][1], (one,)) for place in places]
    return None if seen[0] == seen[1] else with_places(schema, rows)


def _is_rule_paper(schema, rule, thing):
    number = column_sheets(schema)[rule[1]]
    return _are_kept(schema, thing) and breaks_rule(schema[number][0], thing[number], rule)


def _key_paper(schema, number, key):
    """Return TABLES in which two ROWS of this SHEET have the same in key, be it a KEY or not, or None."""
    rows, places = pictured(schema, two_rows_hand(schema, number, key))
    return None if places[0] == places[1] else with_places(schema, rows)


def _is_key_paper(schema, number, key, thing):
    return _are_kept(schema, thing) and breaks_key(schema[number][0], thing[number], key)


def _equal_paper(schema, question, one, other):
    """Return TABLES and a MEETING in which two COLUMNS have not the same, or None."""
    if is_equal(schema, question, one, other):
        return None
    # In TABLES of two MEETINGS that share nothing each of them has no more alike than it has alone.
    return apart(schema, question, ())[:2]


def _is_equal_paper(schema, question, one, other, thing):
    if not _are_meetings(schema, question, thing, 1):
        return False
    tables, meeting = thing
    names = _seen(schema, question, tables, meeting, (one, other))
    return names[0] != names[1]


def _settles_paper(schema, question, some, what):
    """Return TABLES and two MEETINGS with the same in some that have not the same in what, or None."""
    told = settled_rows(schema, question, some) if is_number(what) else settled(schema, question, some)
    return None if what in told else apart(schema, question, some)


def _is_settles_paper(schema, question, some, what, thing):
    if not _are_meetings(schema, question, thing, 2):
        return False
    tables, one, other = thing
    if _seen(schema, question, tables, one, some) != _seen(schema, question, tables, other, some):
        return False
    if is_number(what):
        at = question[0].index(what)
        return one[at] != other[at]
    return _seen(schema, question, tables, one, (what,)) != _seen(schema, question, tables, other, (what,))


def _are_kept(schema, thing):
    return is_tables(schema, thing) and keeps(schema, thing)


def _are_meetings(schema, question, thing, many):
    """Tell whether thing is a tuple of TABLES that keep the SCHEMA and of so many MEETINGS in them."""
    if not is_tuple_of(thing, many + 1) or not _are_kept(schema, thing[0]):
        return False
    return all([_is_meeting_there(schema, thing[0], question, part) for part in thing[1:]])


def _is_meeting_there(schema, tables, question, thing):
    if not isinstance(thing, tuple) or not all([is_number(place) for place in thing]):
        return False
    return is_meeting(schema, tables, question, thing)


def _seen(schema, question, tables, meeting, some):
    """Return the tuple of what this MEETING has in some COLUMNS."""
    return seen_at(tables, question[0], meeting, spots_of(schema, question[0], some))
