"""What is a PROMISE of a SCHEMA: its word, and members that the functions of its point would not refuse."""

from rowsathome.lookups import WORDS, column_sheets, others_of
from rowsathome.plans import is_plan
from rowsathome.questions import free_sheets
from rowsathome.schemas import is_deal, is_question
from rowsathome.shapes import is_number, is_set_of, is_tuple_of

# How many members stand behind the word of a PROMISE.
MEMBERS = {
    "rule": 1, "key": 2, "equal": 3, "settles": 3, "least": 2, "most": 2, "same": 3, "out": 3, "unfelt": 3,
    "plan": 4, "told": 3, "groups": 2, "enough": 3, "fair": 3, "calm": 3,
}


def fits_promise(schema, thing):
    """Tell whether thing is a PROMISE of this SCHEMA, which is made of tuples."""
    if not isinstance(thing, tuple) or not thing or not isinstance(thing[0], str):
        return False
    word, members = thing[0], thing[1:]
    if word not in MEMBERS or len(members) != MEMBERS[word]:
        return False
    if word == "rule":
        return _fits_rule(schema, members[0])
    if word == "key":
        return _is_sheet(schema, members[0]) and _is_set_in(schema[members[0]][0], members[1])
    if word in ("enough", "fair", "calm"):
        return _fits_deal(schema, word, members)
    return is_question(schema, members[0]) and _fits_question(schema, word, members)


def _is_sheet(schema, thing):
    return is_number(thing) and 0 <= thing < len(schema)


def _is_set_in(names, thing):
    return is_set_of(thing, lambda part: part in names)


def _fits_rule(schema, rule):
    if not is_tuple_of(rule, 2):
        return False
    return any([rule[1] in sheet[0] and _is_set_in(sheet[0], rule[0]) for sheet in schema])


def _fits_deal(schema, word, members):
    """Tell whether members fit a word whose first one is a DEAL."""
    deal, one, other = members
    if not is_deal(schema, deal):
        return False
    if word == "calm":
        return _is_kind(schema, one) and _is_kind(schema, other)
    if not _is_sheet(schema, one):
        return False
    if word == "enough":
        return other in schema[one][1] or other in schema[one][2]
    return is_number(other) and other in others_of(schema, one)


def _is_kind(schema, thing):
    return is_tuple_of(thing, 2) and thing[0] in ("put", "take") and _is_sheet(schema, thing[1])


def _fits_question(schema, word, members):
    """Tell whether members fit a word whose first one is a QUESTION, which it is."""
    question = members[0]
    if word in ("least", "most"):
        return _is_set_of_sheets(question[0], members[1])
    if word == "groups":
        return is_deal(schema, members[1])
    if word in ("equal", "settles"):
        return _fits_columns(schema, word, members)
    if word in ("told", "plan"):
        return _fits_homes(schema, members)
    if members[2] not in WORDS:
        return False
    if word == "same":
        return is_question(schema, members[1])
    if word == "out":
        return _is_set_of_sheets(free_sheets(schema, question), members[1])
    return _is_set_in(list(column_sheets(schema)), members[1])


def _is_set_of_sheets(numbers, thing):
    return is_set_of(thing, lambda part: is_number(part) and part in numbers)


def _fits_columns(schema, word, members):
    question, one, other = members
    columns = [column for number in question[0] for column in schema[number][0]]
    if word == "equal":
        return one in columns and other in columns
    if not _is_set_in(columns, one):
        return False
    return other in columns or (is_number(other) and other in question[0])


def _fits_homes(schema, members):
    question, word, deal = members[:3]
    if word not in WORDS or not is_deal(schema, deal):
        return False
    return all([is_plan(schema, question, plan) for plan in members[3:]])
