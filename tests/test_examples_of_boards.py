"""The examples of sections 15 to 18 of the document, each with the result that stands there. [16] [17] [18] [19]"""

import unittest

from helping import SHOP, Case, function
from rowsathome.board import Board
from rowsathome.errors import NoHouse, NoSheet, NoWord, Unfit

ASKED = ((0, 1), (("cust", "name"),), ())
PROMISES = (
    ("least", ASKED, (0,)), ("most", ASKED, (0,)), ("out", ASKED, (1,), "sum"), ("rule", (("name",), "land")),
    ("key", 1, ("city",)),
)
LEAD = ("reference", (0, 1))
NAME = ("key", (1, ("name",)))


class JudgeExamples(Case):
    def test_holds(self):
        self.gives(True, "holds", SHOP, PROMISES[0])
        self.gives(False, "holds", SHOP, PROMISES[4])
        self.gives(True, "is_paper", SHOP, PROMISES[4], function("a_paper")(SHOP, PROMISES[4]))

    def test_papers(self):
        tables = ((("ann", "tea", "a", 5),), (("rome", "it", "ann"), ("rome", "it", "bob")), (("tea", "food"),))
        self.gives(True, "is_paper", SHOP, PROMISES[4], tables)
        self.gives(False, "is_paper", SHOP, PROMISES[0], tables)

    def test_pieces(self):
        self.gives((0, 2), "what_falls", SHOP, LEAD, PROMISES)
        self.gives((1, 3), "what_falls", function("without_piece")(SHOP, LEAD), NAME, PROMISES)
        self.gives((LEAD,), "stands_on", SHOP, PROMISES[0])
        self.gives((NAME, LEAD), "fewest_pieces", SHOP, PROMISES[2])
        self.refuses("Unfit", {}, "without_piece", SHOP, NAME)


SHORT = (
    (("cust", "item", "oid"), (), (("oid",),), ((1, ("cust",), ("name",)),)),
    (("city", "name"), (), (("name",),), ()),
)
CITIES = ((0, 1), (("cust", "name"),), ("city",))


class BoardExamples(unittest.TestCase):
    def setUp(self):
        self.board = Board(SHORT, (("cust",), ("name",)), 2)
        for call in (
            lambda: self.board.put(1, ("rome", "ann")), lambda: self.board.put(0, ("ann", "tea", "a", 5)),
            lambda: self.board.send(("ann",), 1), lambda: self.board.keep("c", CITIES, "sum"),
        ):
            self.assertIsNone(call())

    def test_looks(self):
        board = self.board
        self.assertEqual(((), ()), board.house(0))
        self.assertEqual((("ann", "tea", "a", 5),), board.house(1)[0])
        self.assertEqual(1, len(board.waits()))
        self.assertEqual(((("rome",), 5),), board.answer("c"))
        self.assertEqual(((("rome",), 5),), board.by_houses("c"))
        self.assertEqual(("c",), board.at_home())

    def parted(self):
        self.assertIsNone(self.board.part((("item",), ("name",))))
        return self.board

    def test_parted(self):
        board = self.parted()
        self.assertEqual(((), (), ()), (board.by_houses("c"), board.right(), board.at_home()))
        self.assertEqual(((0, 0, 1),), board.astray())

    def committed(self):
        board = self.parted()
        self.assertIsNone(board.commit((("put", 0, ("bob", "tea", "b", 2)), ("put", 1, ("york", "bob")))))
        return board

    def test_committed_and_undone(self):
        board = self.committed()
        self.assertEqual(("c",), board.changed())
        self.assertEqual(((("york",), 2),), board.by_houses("c"))
        self.assertIsNone(board.undo())
        self.assertEqual(((), 5), (board.changed(), len(board)))
        self.assertEqual((2, ((("ann",), 1),)), board.dealing())

    def test_twin(self):
        board = self.committed()
        board.undo()
        mate = board.twin()
        self.assertTrue(mate == board)
        self.assertIsNone(mate.send(("ann",), 0))
        self.assertEqual(("c",), mate.right())
        self.assertIsNone(mate.undo())
        self.assertIsNone(mate.undo())
        self.assertEqual((("cust",), ("name",)), mate.deal())
        self.assertEqual((4, False), (len(mate), mate == board))
        self.assertIsNone(mate.merge(board.tables(), ((), ())))
        self.assertEqual(((), ()), mate.tables())

    def test_refused(self):
        with self.assertRaises(Unfit):
            self.board.take(1, ("rome", "ann"))
        for wanted, key, call in (
            (NoSheet, 2, lambda: self.board.put(2, ())), (NoHouse, 2, lambda: self.board.send(("bob",), 2)),
        ):
            with self.assertRaises(wanted) as caught:
                call()
            self.assertEqual(key, caught.exception.number)
        with self.assertRaises(NoWord) as caught:
            self.board.keep("d", CITIES, "most")
        self.assertEqual("most", caught.exception.word)


WRITTEN = (
    (("cust", "oid"), ((("cust", "oid"), "cust"),), (("oid",),), ((1, ("cust",), ("name",)),)),
    (("city", "name"), (), ((), ("name",)), ()),
)
TEXT = "cust oid / cust+oid>cust / oid / 1:cust=name\ncity name / - / * name / -"


class TextExamples(Case):
    def test_schemas(self):
        self.gives(TEXT, "schema_text", WRITTEN)
        self.gives(WRITTEN, "read_schema", TEXT)
        self.gives("a / *>a / - / -", "schema_text", ((("a",), (((), "a"),), (), ()),))

    def test_tables_and_questions(self):
        self.gives("ann x 4 / ann y -1\n-", "tables_text", ((("ann", "x", 4), ("ann", "y", -1)), ()))
        self.gives(((("ann", "x", 4), ("ann", "y", -1)), ()), "read_tables", WRITTEN, "ann x 4 / ann y -1\n-")
        self.gives("0 1 / cust=name / city", "question_text", CITIES)
        self.gives(((0,), (), ()), "read_question", WRITTEN, "0 / - / -")

    def test_deals_and_dealings(self):
        self.gives("- name", "deal_text", (None, ("name",)))
        self.gives("cust+oid *", "deal_text", (("cust", "oid"), ()))
        self.gives((("cust",), None), "read_deal", WRITTEN, "cust -")
        self.gives("3 / *:1 ann:2", "dealing_text", (3, (((), 1), (("ann",), 2))))
        self.gives((2, ((("ann", "bob"), 1), (("x",), 0))), "read_dealing", "2 / ann+bob:1 x:0")
        self.gives((1, ()), "read_dealing", "1 / -")

    def test_deeds(self):
        deeds = (("put", 0, ("ann", "x", 4)), ("take", 1, ("rome", "ann")))
        self.gives("put 0 ann x 4\ntake 1 rome ann", "deeds_text", deeds)
        self.gives((("take", 0, ("ann", "x", -1)),), "read_deeds", WRITTEN, "take 0 ann x -1")
        self.gives((), "read_deeds", WRITTEN, "")

    def test_refused(self):
        self.refuses("BadLine", {"number": 1}, "read_schema", "a b / b>a / - / -\na / - / - / -")
        self.refuses("BadLine", {"number": 0}, "read_tables", WRITTEN, "ann y 1 / ann x 4\n-")
        self.refuses("BadText", {"piece": 1}, "read_question", WRITTEN, "0 1 / name=cust / -")
        self.refuses("BadText", {"piece": 2}, "read_deal", WRITTEN, "cust - -")


BY_NAME = (("cust",), ("name",), None)
OPENED = "put 1 rome it ann\nput 2 tea food\nput 0 ann tea a 5\nsend ann 1\nkeep c sum 0 1 / cust=name / city\n"


class DeskExamples(Case):
    def test_replies(self):
        wanted = ["done"] * 5 + ["-", "ann tea a 5", "rome:5", "rome:5", "c", "c", "-"]
        text = OPENED + "house 0 1\nhouse 1 0\nanswer c\nhouses c\nright\nhome\nastray"
        self.gives(wanted, "replies", SHOP, BY_NAME, 2, text)

    def test_parted(self):
        text = OPENED + (
            "part item name -\nhouses c\nright\nastray\ncommit put 0 bob tea b 2 / put 1 york uk bob\nchanged\n"
            "answer c\nhouses c\nundo\nput 0 bob tea b 2\ndeal\ndealing\ndeeds"
        )
        wanted = ["done"] * 6 + ["-", "-", "0:0>1", "done", "c", "rome:5 york:2", "york:2", "done", "refused Unfit"]
        wanted += ["item name -", "2 / ann:1", "6"]
        self.gives(wanted, "replies", SHOP, BY_NAME, 2, text)

    def test_refused_requests(self):
        text = "undo\nsend * 1\nsheet 3\nhouse 1 7\ndrop c\nkeep c most 0 / - / -\nkeep c least 0 / - / -\n"
        wanted = ["NothingDone", "NoHouse", "NoSheet", "NoHouse", "Unfit", "NoWord"]
        wanted = [f"refused {name}" for name in wanted] + ["done", "refused Known", "c"]
        wanted.append("put0-put0 put0-take2 put1-put1 put2-put2")
        self.gives(wanted, "replies", SHOP, BY_NAME, 1, text + "keep c sum 0 / - / -\nkept\nwaits")
        self.gives([], "replies", SHOP, BY_NAME, 1, "")

    def test_requests(self):
        for line, wanted in (
            ("put 1 rome it", False), ("commit", False), ("part - - -", True),
            ("keep c sum 0 1 / name=cust / -", False),
            ("send ann+bob -3", True), ("undo ", False),
        ):
            self.gives(wanted, "is_request", SHOP, line)
        self.refuses("BadLine", {"number": 1}, "replies", SHOP, BY_NAME, 1, "deeds\nlook")


if __name__ == "__main__":
    unittest.main()
