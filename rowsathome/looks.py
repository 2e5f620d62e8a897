"""What can be seen of TABLES by a DEAL and a DEALING: kept answers, what is astray, what has to wait.

A kept QUESTION is a triple (name, question, word).
"""

from rowsathome.commits import waits
from rowsathome.deals import answers_at, is_told_at_home, put_together, rows_at
from rowsathome.tables import answer, broken_references


def answer_in(schema, tables, kept):
    """Return the answer of this kept QUESTION."""
    _, question, word = kept
    return answer(schema, tables, question, word)


def answer_by_houses(schema, tables, deal, dealing, kept):
    """Return the answers of the HOUSES to this kept QUESTION, put together."""
    _, question, word = kept
    return put_together(word, answers_at(schema, tables, question, word, deal, dealing))


def is_right_by_houses(schema, tables, deal, dealing, kept):
    """Tell whether the answers of the HOUSES put together are the answer."""
    return answer_by_houses(schema, tables, deal, dealing, kept) == answer_in(schema, tables, kept)


def is_kept_at_home(schema, deal, kept):
    """Tell whether this kept QUESTION is told at home by its WORD and this DEAL."""
    _, question, word = kept
    return is_told_at_home(schema, question, word, deal)


def names_of(kept):
    """Return the set of the names of these kept QUESTIONS."""
    return tuple(sorted([part[0] for part in kept]))


def pairs_waiting(schema, deal):
    """Return the list of the pairs of KINDS that wait for one another."""
    return waits(schema, deal)


def astray_in(schema, tables, deal, dealing):
    """Return the set of the triples of a HOUSE and a REFERENCE, SHEET to SHEET, that some ROW misses there."""
    found = []
    for house in range(dealing[0]):
        there = rows_at(schema, tables, deal, dealing, house)
        found.extend([(house, number, other) for number, other in broken_references(schema, there)])
    return tuple(sorted(found))
