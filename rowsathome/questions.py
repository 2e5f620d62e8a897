"""QUESTIONS that are alike, and SHEETS that a QUESTION can leave out."""

from itertools import combinations

from rowsathome.errors import Unfit
from rowsathome.hands import marks_of_columns, with_ones
from rowsathome.lookups import column_sheets, need_chosen, need_word
from rowsathome.partings import parting_rows
from rowsathome.shapes import frozen
from rowsathome.tables import answer, is_tables, keeps


def are_alike(schema, one, other, word):
    """Tell whether both QUESTIONS have the same answer by this WORD, FOR ALL TABLES."""
    need_word(word)
    return parting_rows(frozen(schema), frozen(one), frozen(other), word) is None


def parting_tables(schema, one, other, word):
    """Return TABLES that keep the SCHEMA in which both QUESTIONS have unlike answers by this WORD, or None."""
    need_word(word)
    schema = frozen(schema)
    rows = parting_rows(schema, frozen(one), frozen(other), word)
    return None if rows is None else with_ones(schema, rows)


def is_parting(schema, one, other, word, thing):
    """Tell whether thing is TABLES as parting_tables returns them."""
    need_word(word)
    schema = frozen(schema)
    if not is_tables(schema, thing) or not keeps(schema, thing):
        return False
    return answer(schema, thing, one, word) != answer(schema, thing, other, word)


def full_links(schema, question):
    """Return the set of all LINKS that hold in each MEETING, FOR ALL TABLES."""
    return _full_links(frozen(schema), frozen(question))


def _full_links(schema, question):
    marks, sheets = marks_of_columns(schema, question), column_sheets(schema)
    columns = sorted(marks)
    alike = [pair for pair in combinations(columns, 2) if marks[pair[0]] == marks[pair[1]]]
    return tuple([pair for pair in alike if sheets[pair[0]] != sheets[pair[1]]])


def needless_links(schema, question):
    """Return the set of those LINKS of the QUESTION that hold as well if it is asked without them."""
    schema, question = frozen(schema), frozen(question)
    return tuple([link for link in question[1] if _is_needless(schema, question, link)])


def _is_needless(schema, question, link):
    chosen, links, groups = question
    return link in _full_links(schema, (chosen, tuple([mate for mate in links if mate != link]), groups))


def question_without(schema, question, some):
    """Return what is left of the QUESTION without these SHEETS."""
    schema, question, some = frozen(schema), frozen(question), frozen(some)
    _need_without(schema, question, some)
    return rest_of(schema, question, some)


def _need_without(schema, question, some):
    need_chosen(schema, question, some)
    if not all([number in free_sheets(schema, question) for number in some]):
        raise Unfit()


def free_sheets(schema, question):
    """Return the list of the chosen SHEETS, but 0, that have no GROUP: those that may be left out."""
    grouped = [sheet for sheet in question[0] if any([column in schema[sheet][0] for column in question[2]])]
    return [number for number in question[0] if number != 0 and number not in grouped]


def rest_of(schema, question, some):
    """Return what question_without tells of what can be handed to it, all of it tuples."""
    chosen, _, groups = question
    left = tuple([number for number in chosen if number not in some])
    sheets = column_sheets(schema)
    full = _full_links(schema, question)
    return (left, tuple([link for link in full if sheets[link[0]] in left and sheets[link[1]] in left]), groups)


def can_leave_out(schema, question, some, word):
    """Tell whether the QUESTION can leave out these SHEETS by this WORD."""
    need_word(word)
    schema, question, some = frozen(schema), frozen(question), frozen(some)
    _need_without(schema, question, some)
    return leaves_out(schema, question, some, word)


def leaves_out(schema, question, some, word):
    """Tell what can_leave_out tells of what can be handed to it, all of it tuples."""
    return parting_rows(schema, question, rest_of(schema, question, some), word) is None


def sets_to_leave_out(schema, question, word):
    """Return the ascending list of all sets of SHEETS that the QUESTION can leave out by this WORD."""
    need_word(word)
    schema, question = frozen(schema), frozen(question)
    return _sets_to_leave_out(schema, question, word)


def _sets_to_leave_out(schema, question, word):
    numbers = free_sheets(schema, question)
    found = []
    for many in range(len(numbers) + 1):
        found.extend([some for some in combinations(numbers, many) if leaves_out(schema, question, some, word)])
    return sorted(found)


def most_left_out(schema, question, word):
    """Return, of the sets of SHEETS that the QUESTION can leave out, the one with the most; of several the least."""
    need_word(word)
    return most_sets_left_out(frozen(schema), frozen(question), word)[0]


def most_sets_left_out(schema, question, word):
    """Return the ascending list of those sets of SHEETS, of those that can be left out, that have the most."""
    found = _sets_to_leave_out(schema, question, word)
    most = max([len(some) for some in found])
    return [some for some in found if len(some) == most]


def least_question(schema, question, word):
    """Return what is left of the QUESTION without as many SHEETS as it can leave out by this WORD."""
    need_word(word)
    schema, question = frozen(schema), frozen(question)
    return rest_of(schema, question, most_sets_left_out(schema, question, word)[0])
