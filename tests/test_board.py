"""A Board: its deeds and looks, edges and wrong inputs. [2] [17]"""

import copy
import unittest

from helping import BOARD, SHOP, WORDS, function, inside_listed, listed, outside_listed, same
from rowsathome import errors
from rowsathome.board import Board

BY_NAME = (("cust",), ("name",), None)
COPIED = (None, None, None)
EMPTY = ((), (), ())
ANN, BOB = ("rome", "it", "ann"), ("york", "uk", "bob")
TEA, CUP = ("tea", "food"), ("cup", "ware")
ORDER, OTHER = ("ann", "tea", "a", 5), ("bob", "cup", "b", 2)
TABLES = ((ORDER, OTHER), (ANN, BOB), (CUP, TEA))
CITIES = ((0, 1), (("cust", "name"),), ("city",))
ALONE = ((0,), (), ())
FREE = ((0, 1), (), ())
CHANGES = (same, listed, outside_listed, inside_listed)


def opened(deal=BY_NAME, houses=2):
    """Return a Board with TABLES that were put there at once."""
    board = Board(SHOP, deal, houses)
    board.commit(tuple(("put", number, row) for number, rows in enumerate(TABLES) for row in rows))
    return board


def seen(board):
    """Return all that can be seen of a Board."""
    kept = board.kept()
    return repr((
        board.schema(), board.deal(), board.dealing(), board.tables(), kept, board.waits(), board.astray(),
            board.right(),
        board.at_home(), board.changed(), len(board), [board.house(house) for house in range(board.dealing()[0])],
        [(board.answer(name), board.by_houses(name)) for name, _, _ in kept],
    ))


class BoardCase(unittest.TestCase):
    maxDiff = None

    def call(self, board, name, *arguments):
        """Call the method in each way on a twin, and last on this Board; all have to end alike."""
        told = []
        for change in CHANGES:
            for by_name in (False, True):
                mate = board.twin()
                told.append(self.ended(mate, name, [change(part) for part in arguments], by_name))
        told.append(self.ended(board, name, arguments, False))
        self.assertEqual([told[-1]] * len(told), told)
        if told[-1][0] == "raised":
            return told[-1][:3]
        return told[-1][1]

    def ended(self, board, name, arguments, by_name):
        before, given = seen(board), repr(arguments)
        method = getattr(board, name)
        try:
            if by_name:
                told = method(**dict(reversed(list(zip(BOARD[name], arguments)))))
            else:
                told = method(*arguments)
        except (LookupError, ValueError) as error:
            self.assertEqual(before, seen(board), f"{name}{arguments}")
            self.assertIs(getattr(errors, type(error).__name__), type(error))
            return ("raised", type(error).__name__, repr(vars(error)), seen(board))
        self.assertEqual(given, repr(arguments))
        return (repr(told), told, seen(board))

    def does(self, board, name, *arguments):
        """Look whether the call is a deed."""
        many, before = len(board), seen(board)
        self.assertIsNone(self.call(board, name, *arguments))
        self.assertEqual(many + 1, len(board))
        mate = board.twin()
        mate.undo()
        self.assertEqual(before, seen(mate))

    def refuses(self, wanted, kept, board, name, *arguments):
        self.assertEqual(("raised", wanted, repr(kept)), self.call(board, name, *arguments))

    def gives(self, wanted, board, name, *arguments):
        before = seen(board)
        self.assertEqual(repr(wanted), repr(self.call(board, name, *arguments)))
        self.assertEqual(before, seen(board))


class Fresh(BoardCase):
    def test_a_new_board(self):
        for change in CHANGES:
            for houses in (1, 2, 3):
                board = Board(change(SHOP), change(BY_NAME), houses)
                self.assertEqual(board, Board(houses=houses, deal=BY_NAME, schema=SHOP))
                for name, wanted in (
                    ("schema", SHOP), ("deal", BY_NAME), ("dealing", (houses, ())), ("tables", EMPTY), ("kept", ()),
                    ("waits", function("waits")(SHOP, BY_NAME)), ("astray", ()), ("right", ()), ("at_home", ()),
                    ("changed", ()),
                ):
                    self.gives(wanted, board, name)
                for house in range(houses):
                    self.gives(EMPTY, board, "house", house)
                self.assertEqual(0, len(board))

    def test_what_is_given_is_copied(self):
        schema, deal = listed(SHOP), listed(BY_NAME)
        board = Board(schema, deal, 2)
        schema[0][0].append("zzz")
        deal[0][0] = "oid"
        self.gives(SHOP, board, "schema")
        self.gives(BY_NAME, board, "deal")
        question, names, parted = listed(CITIES), ["ann"], [["oid"], None, None]
        board.keep("c", question, "sum")
        board.send(names, 1)
        board.part(parted)
        question[2][0], names[0], parted[0][0] = "land", "bob", "item"
        self.gives((("c", CITIES, "sum"),), board, "kept")
        self.gives((2, ((("ann",), 1),)), board, "dealing")
        self.gives((("oid",), None, None), board, "deal")
        board.waits().clear()
        self.assertTrue(board.waits())

    def test_no_iteration(self):
        for board in (Board(SHOP, COPIED, 1), opened()):
            for call in (iter, list, tuple, sorted, lambda board: [*board], lambda board: 1 in board):
                with self.assertRaises(TypeError):
                    call(board)

    def test_refused_on_a_new_board(self):
        board = Board(SHOP, COPIED, 1)
        self.refuses("NothingDone", {}, board, "undo")
        self.refuses("Unfit", {}, board, "drop", "c")
        self.refuses("Unfit", {}, board, "answer", "c")
        self.refuses("Unfit", {}, board, "by_houses", "")
        for house in (1, -1, 10 ** 30):
            self.refuses("NoHouse", {"number": house}, board, "house", house)


class Deeds(BoardCase):
    def test_put_and_take(self):
        board = Board(SHOP, BY_NAME, 2)
        for name, number, row in (
            ("put", 1, ANN), ("put", 2, TEA), ("put", 0, ORDER), ("put", 0, ORDER), ("take", 1, BOB),
            ("put", 0, OTHER[:3] + (7,)),
        ):
            if row[0] == "bob":
                self.refuses("Unfit", {}, board, name, number, row)
            else:
                self.does(board, name, number, row)
        self.gives(((ORDER,), (ANN,), (TEA,)), board, "tables")
        self.does(board, "take", 0, ORDER)
        self.does(board, "take", 0, ORDER)
        self.gives(((), (ANN,), (TEA,)), board, "tables")
        self.assertEqual(7, len(board))

    def test_refused(self):
        board = opened()
        for name in ("put", "take"):
            for number in (3, -1, 10 ** 30):
                self.refuses("NoSheet", {"number": number}, board, name, number, ANN)
                self.refuses("NoSheet", {"number": number}, board, name, number, ())
            for number, row in (
                (0, ORDER[:3]), (0, (*ORDER, 1)), (1, ORDER), (1, ANN[:2]), (2, ()), (2, ("tea", "Food")),
                (2, ("tea", 1)),
                (0, (5, "tea", "a", 5)), (1, (*ANN, 5)), (2, ("", "food")), (2, ("teateatea", "food")),
            ):
                self.refuses("Unfit", {}, board, name, number, row)
        # A KEY, a RULE, a REFERENCE ahead and behind.
        for name, number, row in (
            ("put", 0, (*ORDER[:3], 6)), ("put", 1, ("rome", "it", "bob")), ("put", 1, ("rome", "uk", "eve")),
            ("put", 0, ("eve", "tea", "c", 1)), ("take", 1, ANN), ("take", 2, TEA),
        ):
            self.refuses("Unfit", {}, board, name, number, row)
        self.gives(TABLES, board, "tables")
        self.assertEqual(1, len(board))

    def test_commit(self):
        board = opened()
        eve = ("oslo", "no", "eve")
        self.does(board, "commit", ())
        self.does(board, "commit", (("put", 0, ("eve", "tea", "c", 1)), ("put", 1, eve)))
        # What is put and taken at once is there.
        self.does(board, "commit",
            (("put", 1, eve), ("take", 1, eve), ("take", 0, OTHER), ("take", 1, BOB), ("take", 2, CUP)))
        self.gives(((ORDER, ("eve", "tea", "c", 1)), (eve, ANN), (TEA,)), board, "tables")
        # A ROW with another worth in the place of one, in whatever order.
        self.does(board, "commit", (("put", 0, (*ORDER[:3], 6)), ("take", 0, ORDER)))
        self.refuses("Unfit", {}, board, "commit", (("take", 0, ORDER), ("take", 1, ANN)))
        self.refuses("Unfit", {}, board, "commit", (("put", 1, ("rome", "uk", "kim")),))
        self.assertEqual(5, len(board))

    def test_merge(self):
        board = opened()
        eve = ("oslo", "no", "eve")
        one = ((ORDER, OTHER), (eve, ANN, BOB), TABLES[2])
        other = ((ORDER,), (ANN,), (CUP, TEA))
        self.does(board, "merge", one, other)
        self.gives(((ORDER,), (eve, ANN), (CUP, TEA)), board, "tables")
        self.does(board, "merge", board.tables(), board.tables())
        self.does(board, "merge", EMPTY, EMPTY)
        self.gives(EMPTY, board, "tables")
        board.undo()
        # In one copy the order of eve comes, in the other one eve goes.
        more = (tuple(sorted([ORDER, ("eve", "tea", "c", 1)])), (eve, ANN), (CUP, TEA))
        self.refuses("Unfit", {}, board, "merge", more, ((ORDER,), (ANN,), (CUP, TEA)))
        # Copies that do not keep may have a MERGE that does.
        self.does(board, "merge", ((), (), (CUP, TEA)), ((ORDER,), (), (CUP, TEA)))

    def test_send(self):
        board = opened(BY_NAME, 3)
        self.does(board, "send", ("bob",), 2)
        self.does(board, "send", (), 1)
        self.does(board, "send", ("ann", "bob"), 1)
        self.gives((3, (((), 1), (("ann", "bob"), 1), (("bob",), 2))), board, "dealing")
        self.does(board, "send", ("bob",), 1)
        self.does(board, "send", ("bob",), 1)
        self.gives((3, (((), 1), (("ann", "bob"), 1), (("bob",), 1))), board, "dealing")
        # To HOUSE 0: they are told no more.
        self.does(board, "send", ("bob",), 0)
        self.does(board, "send", ("eve",), 0)
        self.does(board, "send", (), 0)
        self.gives((3, ((("ann", "bob"), 1),)), board, "dealing")
        for house in (3, -1, 10 ** 30):
            self.refuses("NoHouse", {"number": house}, board, "send", ("bob",), house)
        one = Board(SHOP, BY_NAME, 1)
        self.refuses("NoHouse", {"number": 1}, one, "send", (), 1)
        self.does(one, "send", (), 0)

    def test_part(self):
        board = opened()
        board.send(("ann",), 1)
        for deal in (COPIED, ((), (), ()), (("cust", "cust"), None, ("kind",)), BY_NAME, BY_NAME):
            self.does(board, "part", deal)
            self.gives(deal, board, "deal")
            self.gives(function("waits")(SHOP, deal), board, "waits")
            for house in (0, 1):
                self.gives(function("rows_at")(SHOP, TABLES, deal, board.dealing(), house), board, "house", house)

    def test_keep_and_drop(self):
        board = opened()
        self.does(board, "keep", "z", CITIES, "sum")
        self.does(board, "keep", "a", CITIES, "sum")
        self.does(board, "keep", "b", ALONE, "least")
        self.gives((("a", CITIES, "sum"), ("b", ALONE, "least"), ("z", CITIES, "sum")), board, "kept")
        self.refuses("Known", {"name": "a"}, board, "keep", "a", CITIES, "sum")
        # What is known is told ahead of a WORD that is none.
        self.refuses("Known", {"name": "b"}, board, "keep", "b", ALONE, "most")
        for word in ("most", "", "SUM"):
            self.refuses("NoWord", {"word": word}, board, "keep", "c", ALONE, word)
        self.does(board, "drop", "a")
        for name in ("a", "c", "", "A b"):
            self.refuses("Unfit", {}, board, "drop", name)
            self.refuses("Unfit", {}, board, "answer", name)
            self.refuses("Unfit", {}, board, "by_houses", name)
        self.does(board, "keep", "a", FREE, "greatest")
        self.gives((("a", FREE, "greatest"), ("b", ALONE, "least"), ("z", CITIES, "sum")), board, "kept")
        self.gives(((((), 5),)), board, "answer", "a")
        board.undo()
        board.undo()
        self.gives(((("rome",), 5), (("york",), 2)), board, "answer", "a")

    def test_undo(self):
        board, states = Board(SHOP, BY_NAME, 2), []
        calls = (
            ("commit", ((("put", 1, ANN), ("put", 2, TEA)),)), ("put", (0, ORDER)), ("put", (0, ORDER)),
            ("send", (("ann",), 1)),
            ("part", (COPIED,)), ("keep", ("c", CITIES, "sum")), ("take", (0, ORDER)), ("drop", ("c",)),
            ("merge", (EMPTY, EMPTY)), ("commit", ((),)),
        )
        for name, arguments in calls:
            states.append(seen(board))
            self.assertIsNone(getattr(board, name)(*arguments))
            self.assertEqual(len(states), len(board))
        # A deed that is refused is none.
        self.refuses("Unfit", {}, board, "put", 0, ORDER)
        while states:
            self.assertIsNone(board.undo())
            self.assertEqual(states.pop(), seen(board))
        self.refuses("NothingDone", {}, board, "undo")
        self.assertEqual(Board(SHOP, BY_NAME, 2), board)

    def test_sixty_deeds(self):
        board = opened()
        for at in range(30):
            board.send(("ann",), at % 2)
            board.undo()
            board.send(("bob",), 1)
        self.assertEqual(31, len(board))


class Looks(BoardCase):
    def test_houses_and_astray(self):
        board = opened()
        board.send(("ann",), 1)
        self.gives(((OTHER,), (BOB,), (CUP, TEA)), board, "house", 0)
        self.gives(((ORDER,), (ANN,), (CUP, TEA)), board, "house", 1)
        self.gives((), board, "astray")
        board.part((("oid",), ("name",), ("good",)))
        self.gives(((0, 0, 1),), board, "astray")
        board.send(("cup",), 1)
        self.gives(((0, 0, 1), (0, 0, 2)), board, "astray")
        board.part((None, (), ("good",)))
        self.gives(((0, 0, 2), (1, 0, 1), (1, 0, 2)), board, "astray")
        for house in (2, -1, 10 ** 30):
            self.refuses("NoHouse", {"number": house}, board, "house", house)

    def test_answers(self):
        board = opened()
        board.keep("a", CITIES, "sum")
        board.keep("b", ALONE, "number")
        board.keep("c", FREE, "least")
        self.gives(((("rome",), 5), (("york",), 2)), board, "answer", "a")
        self.gives((((), 2),), board, "answer", "b")
        self.gives((((), 2),), board, "answer", "c")
        self.gives(("a", "b", "c"), board, "right")
        self.gives(("a", "b", "c"), board, "at_home")
        board.part((("oid",), ("name",), None))
        board.send(("ann",), 1)
        # The order a is in HOUSE 0, its buyer in HOUSE 1.
        self.gives(((("york",), 2),), board, "by_houses", "a")
        self.gives(("b", "c"), board, "right")
        self.gives(("b",), board, "at_home")
        board.part(COPIED)
        self.gives(((("rome",), 10), (("york",), 4)), board, "by_houses", "a")
        self.gives(("c",), board, "right")
        self.gives(("c",), board, "at_home")

    def test_changed(self):
        board = opened()
        self.gives((), board, "changed")
        board.keep("a", CITIES, "sum")
        board.keep("b", ALONE, "number")
        self.gives((), board, "changed")
        board.take(0, OTHER)
        self.gives(("a", "b"), board, "changed")
        board.part(COPIED)
        self.gives((), board, "changed")
        board.undo()
        self.gives(("a", "b"), board, "changed")
        board.drop("a")
        self.gives((), board, "changed")
        board.undo()
        board.commit((("take", 1, BOB), ("take", 2, CUP)))
        self.gives((), board, "changed")
        board.commit((("take", 1, ANN), ("put", 1, ("oslo", "no", "ann"))))
        self.gives(("a",), board, "changed")
        board.put(2, CUP)
        self.gives((), board, "changed")
        board.undo()
        self.gives(("a",), board, "changed")

    def test_kept_anew_behind_its_change(self):
        board = opened()
        board.take(0, OTHER)
        board.keep("a", CITIES, "sum")
        # The last deed is the keeping, that changes no TABLES.
        self.gives((), board, "changed")
        board.undo()
        self.gives((), board, "changed")


class Equal(BoardCase):
    def pair(self, one, other, alike):
        for left, right in ((one, other), (other, one)):
            self.assertIs(alike, left == right)
            self.assertIs(not alike, left != right)

    def test_equal(self):
        board = opened()
        self.pair(board, board, True)
        self.pair(board, opened(), True)
        # Whatever deeds can be taken back, and however it came to be so.
        other = Board(SHOP, COPIED, 2)
        for number, row in ((2, TEA), (2, CUP), (1, BOB), (1, ANN), (0, OTHER), (0, ORDER), (0, ORDER)):
            other.put(number, row)
        self.pair(board, other, False)
        other.part(BY_NAME)
        self.pair(board, other, True)
        self.assertNotEqual(len(board), len(other))

    def test_unlike(self):
        for change in (
            lambda board: board.take(0, ORDER), lambda board: board.send(("x",), 1), lambda board: board.part(COPIED),
            lambda board: board.keep("a", ALONE, "sum"),
        ):
            board, other = opened(), opened()
            change(board)
            self.pair(board, other, False)
            change(other)
            self.pair(board, other, True)
            board.undo()
            self.pair(board, other, False)
        self.pair(opened(BY_NAME, 2), opened(BY_NAME, 3), False)
        self.pair(Board(SHOP, COPIED, 1), Board(function("without_reference")(SHOP, 0, 1), COPIED, 1), False)
        one, other = opened(), opened()
        one.keep("a", ALONE, "sum")
        other.keep("a", ALONE, "number")
        self.pair(one, other, False)

    def test_other_things(self):
        board = Board(SHOP, COPIED, 1)
        for thing in (None, 0, "", (), [], SHOP, (SHOP, COPIED, (1, ()), EMPTY, ())):
            self.assertIs(False, board == thing)
            self.assertIs(True, board != thing)

    def test_twins_share_nothing(self):
        board = opened()
        board.keep("a", CITIES, "sum")
        mate = board.twin()
        self.assertIsNot(board, mate)
        self.pair(board, mate, True)
        self.assertEqual(seen(board), seen(mate))
        before = seen(board)
        mate.send(("ann",), 1)
        mate.undo()
        mate.undo()
        mate.undo()
        self.assertEqual(before, seen(board))
        self.assertEqual(0, len(mate))
        further = board.twin().twin()
        board.undo()
        board.undo()
        self.assertEqual(before, seen(further))
        further.undo()
        further.undo()
        self.assertEqual(seen(board), seen(further))

    def test_words(self):
        board = opened()
        for at, word in enumerate(WORDS):
            board.keep("abcd"[at], CITIES, word)
            self.gives(function("answer")(SHOP, TABLES, CITIES, word), board, "answer", "abcd"[at])

    def test_tuples_are_told(self):
        board = opened()
        board.keep("a", CITIES, "sum")
        kept = copy.deepcopy(board.kept())
        self.assertEqual(kept, board.kept())
        for name in ("schema", "deal", "dealing", "tables", "kept", "astray", "right", "at_home", "changed"):
            self.assertIsInstance(getattr(board, name)(), tuple, name)
        self.assertIsInstance(board.waits(), list)


if __name__ == "__main__":
    unittest.main()
