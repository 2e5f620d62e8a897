"""Where two QUESTIONS have unlike answers.

The SCHEMAS may be wider than those of the document, as those of unfolding.py may be.
"""

from rowsathome.hands import meeting_hand
from rowsathome.unfolding import leads_among, marks_at, pictured, reached_places, ways_among


def parting_rows(schema, one, other, word):
    """Return ROWS of a PICTURE that, all worths 1, have unlike answers to both by this WORD, or None if none have."""
    for question in (one, other):
        rows = pictured(schema, meeting_hand(schema, question))[0]
        if word in ("least", "greatest"):
            part = _unlike_shown(schema, rows, one, other)
        else:
            part = _unlike_counts(schema, rows, one, other)
        if part is not None:
            return part
    return None


def _unlike_shown(schema, rows, one, other):
    """Return these ROWS if the QUESTIONS do not show the same in them, otherwise None.

    There is one ROW of SHEET 0 alone, so its worth is the least and the greatest of all that is shown.
    """
    shown = [sorted(set(_shown_ways(schema, rows, question))) for question in (one, other)]
    return None if shown[0] == shown[1] else rows


def _shown_ways(schema, rows, question):
    """Return for each MEETING in these ROWS what it shows."""
    return [marks_at(schema, rows, question, way, question[2]) for way in ways_among(schema, rows, question)]


def _unlike_counts(schema, rows, one, other):
    """Return some of these ROWS in which the QUESTIONS do not show something equally often, or None.

    A MEETING stands where its own ROWS do and those to which they lead. If less ROWS tell nothing, and just these ROWS
    are needed by more MEETINGS of the one QUESTION than of the other, their numbers are unlike there.
    """
    reached = reached_places(leads_among(schema, rows))
    counts = {}
    for question, step in ((one, 1), (other, -1)):
        for way in ways_among(schema, rows, question):
            needed = tuple(sorted(set([place for at in way for place in reached[at]])))
            lot = (needed, marks_at(schema, rows, question, way, question[2]))
            counts[lot] = counts.get(lot, 0) + step
    unlike = [(len(lot[0]), lot[0]) for lot in counts if counts[lot] != 0]
    return tuple([rows[place] for place in min(unlike)[1]]) if unlike else None
