"""One judge for all PROMISES of a SCHEMA, and what falls when a RULE, a KEY or a REFERENCE goes."""

from itertools import combinations

from rowsathome.errors import CanNot, Unfit
from rowsathome.papers import judged, paper_against
from rowsathome.promises import fits_promise
from rowsathome.schemas import without_key, without_reference, without_rule
from rowsathome.shapes import frozen


def is_promise(schema, thing):
    """Tell whether thing is a PROMISE of this SCHEMA."""
    return fits_promise(frozen(schema), thing)


def _need_promise(schema, promise):
    if not fits_promise(schema, promise):
        raise Unfit()


def is_paper(schema, promise, thing):
    """Tell whether thing is a PAPER against this PROMISE."""
    schema, promise = frozen(schema), frozen(promise)
    _need_promise(schema, promise)
    return judged(schema, promise, thing)


def holds(schema, promise):
    """Tell whether this PROMISE holds."""
    return a_paper(schema, promise) is None


def a_paper(schema, promise):
    """Return a PAPER against this PROMISE, or None if it holds."""
    schema, promise = frozen(schema), frozen(promise)
    _need_promise(schema, promise)
    return paper_against(schema, promise)


def pieces(schema):
    """Return the set of all PIECES of this SCHEMA."""
    found = []
    for number, (_, rules, keys, references) in enumerate(frozen(schema)):
        found.extend([("rule", rule) for rule in rules])
        found.extend([("key", (number, key)) for key in keys])
        found.extend([("reference", (number, reference[0])) for reference in references])
    return tuple(sorted(found))


def _referred_keys(schema):
    """Return the list of the PIECES that are KEYS to which a REFERENCE is."""
    return [("key", (other, key)) for sheet in schema for other, _, key in sheet[3]]


def _can_go(schema):
    """Return the list, ascending, of the PIECES that can be left out."""
    bound = _referred_keys(schema)
    return [piece for piece in pieces(schema) if piece not in bound]


def _need_piece(schema, piece):
    if piece not in _can_go(schema):
        raise Unfit()


def without_piece(schema, piece):
    """Return the SCHEMA without this PIECE."""
    schema, piece = frozen(schema), frozen(piece)
    _need_piece(schema, piece)
    return _left_without(schema, piece)


def _left_without(schema, piece):
    what, part = piece
    if what == "rule":
        return without_rule(schema, part)
    number, told = part
    return without_key(schema, number, told) if what == "key" else without_reference(schema, number, told)


def what_falls(schema, piece, promises):
    """Return the set of the places of the PROMISES that hold, but, still PROMISES, not without this PIECE."""
    schema, piece, promises = frozen(schema), frozen(piece), frozen(promises)
    _need_piece(schema, piece)
    held = [at for at, promise in enumerate(promises) if holds(schema, promise)]
    return tuple([at for at in held if _falls(schema, piece, promises[at])])


def _falls(schema, piece, promise):
    """Tell whether what holds with this PIECE is a PROMISE without it, too, but does not hold then."""
    left = _left_without(schema, piece)
    return fits_promise(left, promise) and not holds(left, promise)


def _need_holding(schema, promise):
    if not holds(schema, promise):
        raise CanNot()


def stands_on(schema, promise):
    """Return the set of the PIECES without each of which this PROMISE, that holds, falls."""
    schema, promise = frozen(schema), frozen(promise)
    _need_holding(schema, promise)
    return tuple([piece for piece in _can_go(schema) if _falls(schema, piece, promise)])


def fewest_pieces(schema, promise):
    """Return the least of the sets of as few PIECES as can be with which alone this PROMISE is one and holds."""
    schema, promise = frozen(schema), frozen(promise)
    _need_holding(schema, promise)
    every = list(pieces(schema))
    for many in range(len(every)):
        # These come in ascending order.
        for some in combinations(every, many):
            if _holds_with(schema, some, promise):
                return some
    return tuple(every)


def _holds_with(schema, some, promise):
    """Tell whether these PIECES are a SCHEMA by themselves, and with them alone the PROMISE is one and holds."""
    left = tuple([_sheet_with(schema, number, some) for number in range(len(schema))])
    if not all([key in some for key in _referred_keys(left)]):
        return False
    return fits_promise(left, promise) and holds(left, promise)


def _sheet_with(schema, number, some):
    """Return this SHEET with just those of its RULES, KEYS and REFERENCES that are among these PIECES."""
    columns, rules, keys, references = schema[number]
    return (
        columns,
        tuple([rule for rule in rules if ("rule", rule) in some]),
        tuple([key for key in keys if ("key", (number, key)) in some]),
        tuple([reference for reference in references if ("reference", (number, reference[0])) in some]),
    )
