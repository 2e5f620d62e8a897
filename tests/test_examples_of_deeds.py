"""The examples of sections 12 to 14 of the document, each with the result that stands there. [13] [14] [15]"""

import unittest

from helping import GOODS, SHOP, Case

BY_NAME = (("cust",), ("name",), None)
COPIED = (None, None, None)
TABLES = (
    (("ann", "tea", "a", 5),), (("rome", "it", "ann"), ("york", "uk", "eve")), (("cup", "ware"), ("tea", "food")),
)
COME = ("put", 0, ("eve", "tea", "d", -3))
GO = ("take", 1, ("york", "uk", "eve"))
MORE = ("put", 1, ("rome", "it", "bob"))


class CommitExamples(Case):
    def test_deeds(self):
        self.gives(True, "is_let_now", SHOP, TABLES, COME)
        self.gives(False, "is_let_now", SHOP, TABLES, ("put", 2, ("tea", "food")))
        self.gives(False, "is_let_now", SHOP, TABLES, ("take", 2, ("tea", "food")))
        self.gives([(0, 1)], "breaking_pairs", SHOP, TABLES, (COME, GO, MORE))
        wanted = (TABLES[0], (("rome", "it", "ann"), ("rome", "it", "bob")), TABLES[2])
        self.gives(wanted, "at_once", SHOP, TABLES, (MORE, GO))

    def test_kinds(self):
        self.gives([("put", 0), ("take", 0)], "kinds", (GOODS,))
        dealing = (2, ((("eve",), 1),))
        self.gives(False, "are_apart", SHOP, BY_NAME, dealing, COME, GO)
        self.gives(True, "are_apart", SHOP, BY_NAME, dealing, COME, MORE)
        self.gives(True, "are_apart", SHOP, BY_NAME, (1, ()), COME, ("put", 2, ("pen", "desk")))

    def test_calm(self):
        wanted = [
            (("put", 0), ("put", 0)), (("put", 0), ("take", 2)), (("put", 1), ("put", 1)), (("put", 2), ("put", 2)),
        ]
        self.gives(wanted, "waits", SHOP, BY_NAME)
        self.gives(False, "is_calm", SHOP, COPIED, ("take", 1), ("put", 0))
        self.gives(True, "is_clash", SHOP, COPIED, ("put", 0), ("take", 1), (TABLES, (1, ()), COME, GO))
        self.gives(None, "a_clash", SHOP, BY_NAME, ("put", 0), ("take", 1))

    def test_refused(self):
        self.refuses("Unfit", {}, "is_calm", SHOP, BY_NAME, ("put", 3), ("take", 0))


TAKEN = ("take", 0, ("ann", "tea", "a", 5))
PEOPLE = (("rome", "it", "ann"), ("rome", "it", "bob"))
THINGS = (("cup", "ware"), ("tea", "food"))
FEW = ((TAKEN[2],), PEOPLE, THINGS)
ALL = ((TAKEN[2], ("bob", "cup", "c", 3), ("bob", "cup", "d", -3)), PEOPLE, THINGS)
CITIES = ((0, 1), (("cust", "name"),), ("city",))
OWN = ((0, 1), (("cust", "name"),), ("cust",))


class KeptExamples(Case):
    def test_lots(self):
        self.gives([(("rome",), -3), (("rome",), 3)], "lots_of", SHOP, ALL, CITIES, ("take", 1, ("rome", "it", "bob")))

    def test_unmoved(self):
        wanted = (("put", 1), ("put", 2), ("take", 1), ("take", 2))
        self.gives(wanted, "unmoved_kinds", SHOP, CITIES, "sum")
        self.gives(True, "is_unmoved", SHOP, ((0, 1), (), ()), "least", ("take", 1))

    def test_kept(self):
        self.gives(False, "is_kept", SHOP, CITIES, "least", ("take", 0), True)
        self.gives(True, "is_kept", SHOP, ((0,), (), ("oid",)), "least", ("take", 0), False)
        self.gives(True, "is_kept_paper", SHOP, CITIES, "sum", ("take", 0), False, (FEW, ALL, TAKEN, ("rome",)))

    def test_renewed(self):
        lots = [(("rome",), 5)]
        kind = ("take", 0)
        wanted = ((("rome",), 3),)
        self.gives(wanted, "renewed", SHOP, CITIES, "sum", kind, ((("rome",), 8),), ((("rome",), 3),), lots)
        self.refuses("CanNot", {}, "renewed", SHOP, CITIES, "least", kind, ((("rome",), 1),), ((("rome",), 3),), lots)

    def test_by_row(self):
        self.gives(False, "is_by_row", SHOP, CITIES, "sum", ("put", 0))
        self.gives(((("ann",), 5),), "row_answer", SHOP, OWN, "sum", TAKEN)

    def test_refused(self):
        self.refuses("NoWord", {"word": "most"}, "is_kept", SHOP, CITIES, "most", ("take", 7), False)


LOTS = (
    (("cust", "item", "lot"), (), (("lot",),), ((1, ("cust",), ("name",)),)),
    (("city", "land", "name"), ((("city",), "land"),), (("name",),), ()),
)
FIRST = ((("ann", "tea", "a", 5),), (("rome", "it", "ann"), ("york", "uk", "bob")))
ONE = ((("ann", "tea", "a", 5), ("bob", "cup", "b", 1)), FIRST[1])
OTHER = (FIRST[0], (("rome", "it", "ann"),))
HALLS = (
    (("boss", "ward"), ((("boss",), "ward"),), (), ((1, ("boss", "ward"), ("hall", "lamp")),)),
    (("hall", "lamp"), ((("hall",), "lamp"),), (("hall", "lamp"),), ()),
)
PAIRS = ((0, 1), (), ())


class JoinExamples(Case):
    def test_copies(self):
        self.gives((("put", 0),), "changed_by", LOTS, FIRST, ONE)
        self.gives((("take", 0), ("take", 1)), "changed_by", LOTS, ONE, OTHER)
        self.gives(False, "are_changed_apart", LOTS, FIRST, ONE, ONE)
        self.gives((ONE[0], OTHER[1]), "merged", LOTS, FIRST, ONE, OTHER)

    def test_against(self):
        self.gives(True, "stands_against", LOTS, ("put", 0), ("take", 1))
        self.gives(True, "stands_against", LOTS, ("put", 0), ("put", 0))
        self.gives((("put", 1), ("take", 0)), "kinds_beside", LOTS, (("put", 0),))
        self.gives(True, "merges_keep", LOTS, (("put", 0),), (("put", 1), ("take", 0)))
        self.gives(None, "merge_paper", LOTS, (("put", 0),), (("put", 1),))
        self.gives(True, "is_merge_paper", LOTS, (("put", 0),), (("take", 1),), (FIRST, ONE, OTHER))

    def test_halls(self):
        self.gives(False, "stands_against", HALLS, ("put", 0), ("put", 0))
        self.gives(True, "stands_against", HALLS, ("put", 1), ("put", 1))

    def test_adds(self):
        self.gives(True, "adds_up", LOTS, CITIES, (("put", 0),), (("put", 1),))
        self.gives(False, "adds_up", LOTS, PAIRS, (("put", 0),), (("put", 1),))
        self.gives(True, "adds_up", LOTS, CITIES, (("put", 0),), (("take", 1),))
        more = (FIRST[0], (("oslo", "no", "kim"), *FIRST[1]))
        self.gives(False, "do_add", LOTS, CITIES, FIRST, ONE, OTHER)
        self.gives(True, "do_add", LOTS, CITIES, FIRST, ONE, more)
        self.gives(True, "is_adds_paper", LOTS, PAIRS, (("put", 0),), (("put", 1),), (FIRST, ONE, more))
        self.gives(None, "adds_paper", LOTS, CITIES, (("put", 0),), (("put", 1),))

    def test_refused(self):
        self.refuses("NoSheet", {"number": 2}, "stands_against", LOTS, ("put", 2), ("put", 3))


if __name__ == "__main__":
    unittest.main()
