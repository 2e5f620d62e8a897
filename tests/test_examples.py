"""The examples of sections 3 and 4 of the document, each with the result that stands there. [4] [5]"""

import unittest

from helping import GOODS, ORDERS, SHOP, Case, function

TABLES = (
    (("ann", "tea", "a", 5), ("ann", "tea", "b", 2), ("bob", "cup", "c", 1)),
    (("rome", "it", "ann"), ("rome", "it", "bob"), ("york", "uk", "eve")),
    (("cup", "ware"), ("tea", "food")),
)
BAD = (TABLES[0], (("rome", "it", "ann"), ("rome", "uk", "bob")), TABLES[2])
WORSE = (TABLES[0], TABLES[1][:1], (("tea", "food"), ("tea", "ware")))
GO = ("take", 1, ("york", "uk", "eve"))
COME = ("put", 0, ("eve", "tea", "d", -3))
QUESTION = ((0, 1), (("cust", "name"),), ("city",))
ALL_THREE = ((0, 1, 2), (("cust", "name"), ("good", "item")), ("kind",))


class SchemaExamples(Case):
    def test_what_is_one(self):
        self.gives(True, "is_schema", SHOP)
        self.gives(False, "is_schema", ())
        self.gives(False, "is_schema", (ORDERS,))
        self.gives(True, "is_question", SHOP, QUESTION)
        self.gives(False, "is_question", SHOP, ((1,), (), ()))
        self.gives(True, "is_deal", SHOP, (("cust",), ("name",), None))
        self.gives(False, "is_deal", SHOP, (None, None))

    def test_what_stands_where(self):
        self.gives(("city", "cust", "good", "item", "kind", "land", "name", "oid"), "columns_of", SHOP)
        self.gives(1, "sheet_of", SHOP, "land")
        self.gives((1, 2), "referred", SHOP, 0)
        self.gives((), "referred", SHOP, 1)
        self.gives((0,), "referring", SHOP, 2)

    def test_closed(self):
        self.gives(("city", "land"), "closed", SHOP, 1, ("city",))
        self.gives(("city", "land", "name"), "closed", SHOP, 1, ("name",))
        self.gives(("cust", "item"), "closed", SHOP, 0, ("cust", "item"))
        self.gives((), "closed", SHOP, 2, ())

    def test_with_and_without(self):
        longer = (ORDERS[0], ((("item",), "cust"),), *ORDERS[2:])
        self.gives((longer, *SHOP[1:]), "with_rule", SHOP, (("item",), "cust"))
        looser = (SHOP[1][0], (), *SHOP[1][2:])
        self.gives((ORDERS, looser, GOODS), "without_rule", SHOP, (("city",), "land"))
        self.gives((*SHOP[:2], (*GOODS[:2], (("good",), ("kind",)), ())), "with_key", SHOP, 2, ("kind",))
        alone = (*ORDERS[:3], ((2, ("item",), ("good",)),))
        self.gives((alone, *SHOP[1:]), "without_reference", SHOP, 0, 1)
        moved = (*ORDERS[:3], ((1, ("item",), ("good",)),))
        self.gives((moved, GOODS), "without_sheet", (alone, *SHOP[1:]), 1)

    def test_with_sheet_and_renamed(self):
        self.gives((*SHOP, (("zip",), (), (), ())), "with_sheet", SHOP, (("zip",), (), (), ()))
        renamed = (
            (("item", "oid", "zz"), (), (("oid",),), ((1, ("zz",), ("aa",)), (2, ("item",), ("good",)))),
            (("aa", "city", "land"), ((("city",), "land"),), (("aa",),), ()),
            GOODS,
        )
        self.gives(renamed, "renamed", SHOP, (("name", "aa"), ("cust", "zz"), ("q", "oid")))

    def test_refused(self):
        self.refuses("Unfit", {}, "with_rule", SHOP, (("item",), "city"))
        self.refuses("Unfit", {}, "without_key", SHOP, 1, ("name",))
        self.refuses("NoSheet", {"number": 3}, "closed", SHOP, 3, ("x",))


class TableExamples(Case):
    def test_what_is_one(self):
        self.gives(True, "is_row", SHOP, 0, ("eve", "tea", "d", -3))
        self.gives(True, "is_tables", SHOP, TABLES)
        self.gives(False, "is_tables", SHOP, TABLES[:2])
        self.gives(True, "keeps", SHOP, TABLES)

    def test_broken(self):
        self.gives(((("city",), "land"),), "broken_rules", SHOP, BAD)
        self.gives(((2, ("good",)),), "broken_keys", SHOP, WORSE)
        self.gives(((0, 1), (0, 2)), "broken_references", SHOP, WORSE)
        self.gives(False, "keeps", SHOP, BAD)

    def test_rows(self):
        self.gives((("rome", "it", "ann"), ("rome", "it", "bob")), "rows_with", SHOP, TABLES, 1, ("city",), ("rome",))
        self.gives(((1, ("rome", "it", "bob")), (2, ("cup", "ware"))), "led_to", SHOP, TABLES, 0, TABLES[0][2])
        leading = ((0, ("ann", "tea", "a", 5)), (0, ("ann", "tea", "b", 2)))
        self.gives(leading, "leading_to", SHOP, TABLES, 2, ("tea", "food"))

    def test_keeps_after(self):
        self.gives(True, "keeps_after", SHOP, TABLES, GO)
        self.gives(True, "keeps_after", SHOP, TABLES, COME)
        self.gives(False, "keeps_after", SHOP, function("after")(SHOP, TABLES, GO), COME)
        self.gives(False, "keeps_after", SHOP, TABLES, ("take", 1, TABLES[1][0]))

    def test_after(self):
        gone = (TABLES[0], (("rome", "it", "ann"), ("rome", "it", "bob")), TABLES[2])
        self.gives(gone, "after", SHOP, TABLES, GO)
        behind = ((*TABLES[0], ("eve", "tea", "d", -3)), *gone[1:])
        self.gives(behind, "after_all", SHOP, TABLES, (GO, COME, COME))
        self.gives((COME, GO), "deeds_to", SHOP, TABLES, behind)

    def test_answers(self):
        self.gives([(0, 0), (1, 0), (2, 1)], "meetings", SHOP, TABLES, QUESTION)
        self.gives(("rome",), "shown", SHOP, TABLES, QUESTION, (2, 1))
        self.gives(((("rome",), 8),), "answer", SHOP, TABLES, QUESTION, "sum")
        self.gives(((("food",), 7), (("ware",), 1)), "answer", SHOP, TABLES, ALL_THREE, "sum")
        self.gives((((), 6),), "answer", SHOP, TABLES, ((0, 2), (), ()), "number")

    def test_refused(self):
        self.refuses("Unfit", {}, "after", SHOP, TABLES, ("put", 2, ("x",)))
        self.refuses("NoSheet", {"number": 3}, "led_to", SHOP, TABLES, 3, ())
        self.refuses("NoWord", {"word": "most"}, "answer", SHOP, TABLES, QUESTION, "most")


if __name__ == "__main__":
    unittest.main()
