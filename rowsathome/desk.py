"""A desk: requests, one on each line, that are put to a Board, and its replies."""

from rowsathome.board import Board
from rowsathome.errors import BadLine, BadText, Known, NoHouse, NoSheet, NothingDone, NoWord, Unfit
from rowsathome.lookups import need_sheet
from rowsathome.shapes import frozen
from rowsathome.texts import deal_text, dealing_text, read_deal, read_question
from rowsathome.wording import (
    BETWEEN_PARTS,
    names_text,
    read_all,
    read_deed,
    read_name,
    read_names,
    read_number,
    rows_text,
    words_text,
)

DONE = "done"
# Requests of one word.
ALONE = ("undo", "right", "home", "changed", "kept", "astray", "waits", "deal", "dealing", "deeds")
# Requests that have one NAME behind their word.
NAMED = ("drop", "answer", "houses")


def is_request(schema, thing):
    """Tell whether thing is a string that is a request."""
    return isinstance(thing, str) and _read_request(frozen(schema), thing) is not None


def replies(schema, deal, houses, text):
    """Return the list of the replies to the lines of this text, put to a new Board."""
    schema, requests = frozen(schema), []
    lines = text.split("\n") if text else []
    for number, line in enumerate(lines):
        request = _read_request(schema, line)
        if request is None:
            raise BadLine(number)
        requests.append(request)
    board = Board(schema, deal, houses)
    return [_reply(board, word, members) for word, members in requests]


def _read_request(schema, line):
    """Return the pair of the word of this request and the tuple of what stands behind it, None if it is none."""
    if line in ALONE:
        return (line, ())
    word, _, rest = line.partition(" ")
    members = _read_members(schema, word, line, rest)
    return None if members is None or None in members else (word, members)


def _read_members(schema, word, line, rest):
    """Return the tuple of what stands behind the word, or None; a member that is not well written may be None."""
    if word in ("put", "take"):
        return (read_deed(schema, line),)
    if word == "commit":
        return (read_all(rest.split(BETWEEN_PARTS), lambda part: read_deed(schema, part)),)
    if word == "part":
        return _read_deal_of(schema, rest)
    if word == "keep":
        return _read_keep(schema, rest)
    if word in NAMED:
        return (read_name(rest),)
    if word == "sheet":
        return (read_number(rest),)
    words = rest.split(" ")
    if word == "house" and len(words) == 2:
        return (read_number(words[0]), read_number(words[1]))
    if word == "send" and len(words) == 2:
        return (read_names(words[0]), read_number(words[1]))
    return None


def _read_deal_of(schema, text):
    try:
        return (read_deal(schema, text),)
    except BadText:
        return None


def _read_keep(schema, text):
    words = text.split(" ", 2)
    if len(words) != 3:
        return None
    try:
        question = read_question(schema, words[2])
    except BadText:
        return None
    return (read_name(words[0]), question, read_name(words[1]))


def _reply(board, word, members):
    """Return the reply to this request, that is refused if it raises an error."""
    try:
        return _reply_of(board, word, members)
    except NoHouse:
        return "refused NoHouse"
    except NoSheet:
        return "refused NoSheet"
    except NoWord:
        return "refused NoWord"
    except NothingDone:
        return "refused NothingDone"
    except Known:
        return "refused Known"
    except Unfit:
        return "refused Unfit"


def _reply_of(board, word, members):
    if word in ("put", "take", "commit", "send", "part", "keep", "drop", "undo"):
        _do(board, word, members)
        return DONE
    if word in ("sheet", "house"):
        return _rows_reply(board, word, members)
    if word in ("answer", "houses"):
        pairs = board.answer(members[0]) if word == "answer" else board.by_houses(members[0])
        return words_text([f"{names_text(names)}:{amount}" for names, amount in pairs])
    return _look_reply(board, word)


def _do(board, word, members):
    """Do the deed of this request, or take one back."""
    match word:
        case "put" | "take":
            board.commit(members)
        case "commit":
            board.commit(members[0])
        case "send":
            board.send(members[0], members[1])
        case "part":
            board.part(members[0])
        case "keep":
            board.keep(members[0], members[1], members[2])
        case "drop":
            board.drop(members[0])
        case _:
            board.undo()


def _rows_reply(board, word, members):
    """Return the line of the ROWS of a SHEET: of all, or of those that a HOUSE has."""
    tables = board.tables() if word == "sheet" else board.house(members[0])
    number = members[-1]
    need_sheet(board.schema(), number)
    return rows_text(tables[number])


def _look_reply(board, word):
    """Return the reply to a request of one word that changes nothing."""
    match word:
        case "right":
            return words_text(board.right())
        case "home":
            return words_text(board.at_home())
        case "changed":
            return words_text(board.changed())
        case "kept":
            return words_text([name for name, _, _ in board.kept()])
        case "astray":
            return words_text([f"{house}:{number}>{other}" for house, number, other in board.astray()])
        case "waits":
            return words_text([f"{kind[0]}{kind[1]}-{mate[0]}{mate[1]}" for kind, mate in board.waits()])
        case "deal":
            return deal_text(board.deal())
        case "dealing":
            return dealing_text(board.dealing())
        case _:
            return str(len(board))
