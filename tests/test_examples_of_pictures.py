"""The examples of sections 5 to 7 of the document, each with the result that stands there. [6] [7] [8]"""

import unittest

from helping import SHOP, Case, function

STAFF = (("boss", "desk", "ward"), (), (), ((1, ("boss", "ward"), ("hall", "lamp")),))
HALLS = (("hall", "lamp"), ((("hall",), "lamp"),), (("hall", "lamp"),), ())
OFFICE = (STAFF, HALLS, (("key", "mate"), (), (("key",),), ()))
DESKS = ((0, 2), (("boss", "key"), ("desk", "key")), ("ward",))
TWO = ((0, ("x", "y", "z")), (0, ("x", "v", "u")))


class UnfoldExamples(Case):
    def test_grown_and_picture(self):
        self.gives((*((0, (0, 1, 2)), (0, (0, 3, 4))), (1, (0, 2)), (1, (0, 4))), "grown", OFFICE, TWO)
        self.gives(((0, (0, 1, 2)), (0, (0, 3, 2)), (1, (0, 2))), "picture", OFFICE, TWO)

    def test_meetings(self):
        self.gives(((0, ("a", "a", "b")), (2, ("a", "c"))), "hand_of_meeting", OFFICE, DESKS)
        self.gives((("boss", "desk", "key"),), "equal_columns", OFFICE, DESKS)
        self.gives(("boss", "desk", "key", "mate", "ward"), "settled", OFFICE, DESKS, ("desk",))
        self.gives((2,), "settled_rows", OFFICE, DESKS, ("desk",))


ALL = ((0, 1, 2), (("cust", "name"), ("good", "item")), ("city",))


class FanExamples(Case):
    def test_fan(self):
        for some, wanted in (
            ((0,), (1, 1)), ((1,), (0, None)), ((0, 2), (1, 1)), ((1, 2), (0, None)), ((), (0, None)),
        ):
            self.gives(wanted, "fan", SHOP, ALL, some)
        self.gives(((1, 1), (0, None), (0, None)), "fans", SHOP, ALL)
        self.gives((0, None), "fan", SHOP, ((0, 1), (("city", "cust"),), ()), (0,))
        self.gives((1, None), "fan", SHOP, ((0, 1), (), ()), (0,))

    def test_ways_on(self):
        tables = (
            (("ann", "pen", "a", 3), ("ann", "pot", "b", 5)),
            (("rome", "it", "ann"), ("rome", "it", "bob")),
            (("pen", "ink"), ("pot", "tin")),
        )
        self.gives((((0,), 1), ((1,), 1)), "ways_on", SHOP, ALL, tables, (0,))
        self.gives((((0,), 2), ((1,), 0)), "ways_on", SHOP, ALL, tables, (1,))
        self.gives((((0, 0), 1), ((0, 1), 1), ((1, 0), 0), ((1, 1), 0)), "ways_on", SHOP, ALL, tables, (1, 2))
        self.gives((((), 2),), "ways_on", SHOP, ALL, tables, ())
        self.gives(True, "is_fan_paper", SHOP, ALL, (1,), "least", tables)
        self.gives(True, "is_fan_paper", SHOP, ALL, (1,), "most", tables)
        self.gives(False, "is_fan_paper", SHOP, ALL, (1, 2), "most", tables)
        self.gives(None, "fan_paper", SHOP, ALL, (0,), "least")
        self.gives(None, "fan_paper", SHOP, ALL, (0,), "most")

    def test_telling(self):
        self.gives((0, 1, 2), "told_by", SHOP, ALL, (0,))
        self.gives((1,), "told_by", SHOP, ALL, (1,))
        self.gives((("cust", "name"), ("good", "item")), "alike_columns", SHOP, ALL)
        self.gives((0,), "fewest_telling", SHOP, ALL)
        self.gives((0, 1), "fewest_telling", SHOP, ((0, 1), (), ()))

    def test_refused(self):
        self.refuses("NoSheet", {"number": 3}, "fan", SHOP, ALL, (0, 3))
        self.refuses("Unfit", {}, "fan", SHOP, ((0,), (), ()), (1,))
        self.refuses("NoWord", {"word": "many"}, "fan_paper", SHOP, ALL, (0,), "many")


BOTH = ((0, 1), (("cust", "name"),), ("name",))
FREE = ((0, 1), (), ())
LOOSE = ((0, 1, 2), (("good", "item"),), ())
ORDER_ALONE = ((0,), (), ())


class QuestionExamples(Case):
    def test_left_out(self):
        self.gives(True, "can_leave_out", SHOP, ALL, (2,), "sum")
        self.gives(((0, 1), (("cust", "name"),), ("city",)), "question_without", SHOP, ALL, (2,))
        self.gives(False, "can_leave_out", SHOP, FREE, (1,), "number")
        self.gives(True, "can_leave_out", SHOP, FREE, (1,), "least")
        self.gives([(), (2,)], "sets_to_leave_out", SHOP, LOOSE, "sum")
        self.gives([(), (1,), (1, 2), (2,)], "sets_to_leave_out", SHOP, LOOSE, "least")
        self.gives((1, 2), "most_left_out", SHOP, LOOSE, "greatest")
        self.gives(((0, 1), (), ()), "least_question", SHOP, LOOSE, "number")

    def test_alike(self):
        self.gives(True, "are_alike", SHOP, BOTH, ((0,), (), ("cust",)), "sum")
        self.gives(False, "are_alike", SHOP, BOTH, ((0,), (), ("item",)), "least")

    def test_links(self):
        crossed = ((0, 1, 2), (("cust", "good"), ("cust", "name"), ("good", "name")), ())
        self.gives((("cust", "name"), ("good", "item")), "full_links", SHOP, ALL)
        self.gives((), "needless_links", SHOP, ALL)
        self.gives((("cust", "good"), ("cust", "name"), ("good", "name")), "needless_links", SHOP, crossed)

    def test_parting(self):
        tables = ((("ann", "tea", "a", 5),), (("rome", "it", "ann"), ("rome", "it", "bob")), (("tea", "food"),))
        self.gives(True, "is_parting", SHOP, FREE, ORDER_ALONE, "number", tables)
        self.gives(False, "is_parting", SHOP, FREE, ORDER_ALONE, "least", tables)
        self.gives(None, "parting_tables", SHOP, FREE, ORDER_ALONE, "least")
        told = function("parting_tables")(SHOP, FREE, ORDER_ALONE, "sum")
        self.gives(True, "is_parting", SHOP, FREE, ORDER_ALONE, "sum", told)

    def test_refused(self):
        self.refuses("Unfit", {}, "can_leave_out", SHOP, ALL, (1,), "sum")
        self.refuses("NoWord", {"word": "most"}, "can_leave_out", SHOP, ALL, (3,), "most")


if __name__ == "__main__":
    unittest.main()
