"""The examples of sections 8 to 11 of the document, each with the result that stands there. [9] [10] [11] [12]"""

import unittest

from helping import SHOP, Case, function

TOWNS = ((0, 1), (("cust", "name"),), ("city",))
HOUSE = (
    (("boss", "desk", "ward"), (), (), ((1, ("boss", "ward"), ("hall", "lamp")),)),
    (("hall", "lamp"), ((("hall",), "lamp"),), (("hall", "lamp"),), ()),
)
WARDS = ((0,), (), ("ward",))


class FeltExamples(Case):
    def test_felt_columns(self):
        self.gives(("city", "cust", "name"), "felt_columns", SHOP, TOWNS, "sum")
        linked = ((0, 1, 2), (("cust", "name"), ("good", "item")), ())
        self.gives((), "felt_columns", SHOP, linked, "sum")
        self.gives((), "felt_columns", SHOP, ((0, 1), (), ()), "least")

    def test_pairs_of_tables(self):
        one = ((("ann", "tea", "a", 5),), (("rome", "it", "ann"), ("york", "uk", "bob")), (("tea", "food"),))
        other = ((("ann", "tea", "a", 5),), (("rome", "it", "bob"), ("york", "uk", "ann")), (("tea", "food"),))
        self.gives(True, "are_alike_but", SHOP, one, other, ("name",))
        self.gives(False, "are_alike_but", SHOP, one, other, ("city",))
        self.gives(True, "are_alike_but", SHOP, one, other, ("city", "land"))
        self.gives(True, "is_parting_pair", SHOP, TOWNS, ("name",), "number", (one, other))
        self.gives(False, "is_parting_pair", SHOP, TOWNS, ("city",), "number", (one, other))

    def test_fixed_and_felt(self):
        for some, wanted in ((("ward",), ("ward",)), (("boss", "ward"), ()), (("lamp",), ())):
            self.gives(wanted, "fixed_columns", HOUSE, some)
        self.gives(False, "feels", HOUSE, WARDS, ("ward",), "sum")
        self.gives(True, "feels", HOUSE, WARDS, ("boss", "ward"), "sum")
        self.gives(False, "feels", HOUSE, WARDS, ("lamp",), "least")
        self.gives((), "felt_columns", HOUSE, WARDS, "sum")
        self.gives([("boss", "ward"), ("hall", "ward"), ("lamp", "ward")], "felt_pairs", HOUSE, WARDS, "sum")
        self.gives(None, "parting_pair", HOUSE, WARDS, ("desk",), "sum")
        pair = function("parting_pair")(HOUSE, WARDS, ("lamp", "ward"), "least")
        self.gives(True, "is_parting_pair", HOUSE, WARDS, ("lamp", "ward"), "least", pair)

    def test_refused(self):
        self.refuses("NoColumn", {"name": "x"}, "feels", SHOP, TOWNS, ("city", "x"), "sum")
        self.refuses("NoWord", {"word": "most"}, "felt_columns", SHOP, TOWNS, "most")


THREE = ((0, 1, 2), (("cust", "name"), ("good", "item")), ("city",))
BY_NAME = (("cust",), ("name",), None)
BY_ITEM = (("item",), ("name",), None)
PLAN = ((2,), ("home", ("fold", ("join", 0, 1))))
PARTS = ((), ("join", ("home", 0), ("join", 2, ("home", 1))))
TABLES = (
    (("ann", "pen", "a", 5), ("ann", "tea", "b", 2), ("bob", "tea", "c", 1)),
    (("bern", "ch", "ann"), ("rome", "it", "bob")),
    (("pen", "desk"), ("tea", "food")),
)
DEALING = (2, ((("bob",), 1), (("pen",), 1)))


class PlanExamples(Case):
    def test_brought(self):
        self.gives(((0,), (1,)), "homes_of", PARTS)
        wanted = (((0, 0), 0), ((1, 0), 1), ((2, 1), 0))
        self.gives(wanted, "brought", SHOP, THREE, BY_ITEM, DEALING, TABLES, PLAN)

    def test_right(self):
        self.gives(True, "is_right", SHOP, THREE, "sum", BY_NAME, PLAN)
        self.gives(False, "is_right", SHOP, THREE, "sum", BY_ITEM, PLAN)
        self.gives(True, "is_right", SHOP, THREE, "sum", BY_ITEM, PARTS)
        self.gives(True, "is_wrong", SHOP, THREE, "sum", BY_ITEM, PLAN, (TABLES, DEALING))
        self.gives(None, "a_wrong", SHOP, THREE, "sum", BY_NAME, PLAN)

    def test_sizes(self):
        self.gives(2, "handed_on", SHOP, THREE, BY_NAME, DEALING, TABLES, PLAN)
        self.gives([(0,), (0, 2), (1,), (1, 2)], "right_homes", SHOP, THREE, "sum", BY_ITEM)
        self.gives((3, 3), "plan_size", PARTS)
        self.gives((2, 1), "least_size", SHOP, THREE, "sum", BY_NAME)


SHORT = (
    (("cust", "oid"), (), (("oid",),), ((1, ("cust",), ("name",)),)),
    (("city", "name"), (), (("name",),), ()),
)
CITIES = ((0, 1), (("cust", "name"),), ("city",))
FEW = ((("ann", "a", 5), ("ann", "b", 2), ("bob", "c", 1)), (("bern", "ann"), ("rome", "bob")))
SENT = (2, ((("b",), 1), (("bob",), 1)))
ALIKE = (("cust",), ("name",))
APART = (("oid",), ("name",))


class DealExamples(Case):
    def test_houses(self):
        self.gives(1, "house_of", SENT, ("bob",))
        self.gives(0, "house_of", SENT, ("b", "b"))
        self.gives(((("bob", "c", 1),), (("rome", "bob"),)), "rows_at", SHORT, FEW, ALIKE, SENT, 1)
        self.gives([(0,), (0,), (1,)], "houses_of", SHORT, FEW, CITIES, ALIKE, SENT)
        self.gives([(0,), (), ()], "houses_of", SHORT, FEW, CITIES, APART, SENT)

    def test_answers(self):
        self.gives([((("bern",), 7),), ((("rome",), 1),)], "answers_at", SHORT, FEW, CITIES, "sum", ALIKE, SENT)
        answers = function("answers_at")(SHORT, FEW, CITIES, "sum", APART, SENT)
        self.gives(((("bern",), 5),), "put_together", "sum", answers)

    def test_at_home(self):
        self.gives(True, "is_told_at_home", SHORT, CITIES, "sum", ALIKE)
        self.gives(False, "is_told_at_home", SHORT, CITIES, "sum", APART)
        self.gives(False, "is_told_at_home", SHORT, CITIES, "sum", (None, None))
        self.gives(True, "is_told_at_home", SHORT, CITIES, "least", (None, None))
        self.gives(False, "groups_at_home", SHORT, CITIES, ALIKE)
        self.gives(True, "groups_at_home", SHORT, (*CITIES[:2], ("cust",)), ALIKE)

    def test_papers(self):
        self.gives(True, "is_home_paper", SHORT, CITIES, "sum", APART, (FEW, SENT))
        self.gives(None, "home_paper", SHORT, CITIES, "sum", ALIKE)
        paper = function("groups_paper")(SHORT, CITIES, ALIKE)
        self.gives(True, "is_groups_paper", SHORT, CITIES, ALIKE, paper)

    def test_deals_at_home(self):
        wanted = [
            (None, ("city",)), (None, ("name",)), (("cust",), None), (("cust",), ("name",)), (("oid",), None),
        ]
        self.gives(wanted, "deals_at_home", SHORT, CITIES, "sum")

    def test_refused(self):
        self.refuses("NoHouse", {"number": 2}, "rows_at", SHORT, FEW, ALIKE, SENT, 2)


CITY_LAND = (("city",), "land")
ROOMS = (
    (("a", "b", "d"), ((("a",), "b"),), (), ((1, ("a", "b"), ("k", "l")),)),
    (("k", "l"), ((("k",), "l"),), (("k", "l"),), ()),
)


class CheckExamples(Case):
    def test_blind(self):
        self.gives([(1, CITY_LAND)], "blind_rules", SHOP, BY_NAME)
        self.gives([(0, ("oid",))], "blind_keys", SHOP, BY_NAME)
        self.gives(True, "is_enough", SHOP, BY_NAME, 1, ("name",))
        self.gives(True, "is_enough", SHOP, (None, ("city",), None), 1, CITY_LAND)
        self.gives([(0, 1), (0, 2)], "unfair_references", SHOP, (("cust",), ("city",), ("good",)))

    def test_spot(self):
        tables, dealing = ((), (("rome", "it", "ann"), ("rome", "uk", "bob")), ()), (2, ((("bob",), 1),))
        self.gives((True, True), "houses_keep", SHOP, tables, BY_NAME, dealing)
        self.gives(True, "is_blind_spot", SHOP, BY_NAME, 1, CITY_LAND, (tables, dealing))
        self.gives(None, "a_blind_spot", SHOP, BY_NAME, 1, ("name",))

    def test_rooms(self):
        for other, wanted in ((None, True), (("k",), True), (("l",), False)):
            self.gives(wanted, "is_enough", ROOMS, (("d",), other), 0, (("a",), "b"))
        self.gives(True, "is_fair", ROOMS, (("b",), ("l",)), 0, 1)
        self.gives([(), ("oid",)], "good_deals", SHOP, (None, None, None), 0)

    def test_refused(self):
        self.refuses("Unfit", {}, "is_fair", SHOP, BY_NAME, 1, 2)


if __name__ == "__main__":
    unittest.main()
