"""PARTS and fans: edges and wrong inputs. [2] [7]"""

import unittest

from helping import SHOP, STRANGE, Case, function

ALL = ((0, 1, 2), (("cust", "name"), ("good", "item")), ("city",))
FREE = ((0, 1), (), ())
ALONE = ((0,), (), ())
EMPTY = ((), (), ())
TABLES = (
    (("ann", "pen", "a", 3), ("ann", "pot", "b", 5)),
    (("rome", "it", "ann"), ("rome", "it", "bob")),
    (("pen", "ink"), ("pot", "tin")),
)
# Two buyers have one name, and the second order has no good.
BROKEN = (
    (("ann", "pen", "a", 3), ("ann", "pot", "b", 5)),
    (("rome", "it", "ann"), ("york", "uk", "ann")),
    (("pen", "ink"),),
)
ONE_ROW = ((("a", "b"), (), ((),), ()), (("c",), (), ((),), ()))


class Ways(Case):
    def test_without_rows(self):
        for some, wanted in (((), (((), 0),)), ((0,), ()), ((1, 2), ())):
            self.gives(wanted, "ways_on", SHOP, ALL, EMPTY, some)
        self.gives((((), 0),), "ways_on", SHOP, ALL, (TABLES[0], (), TABLES[2]), ())
        self.gives((((0,), 0), ((1,), 0)), "ways_on", SHOP, ALL, (TABLES[0], (), TABLES[2]), (0,))

    def test_tables_that_do_not_keep(self):
        self.gives((((0,), 2), ((1,), 0)), "ways_on", SHOP, ALL, BROKEN, (0,))
        self.gives((((0,), 1), ((1,), 1)), "ways_on", SHOP, ALL, BROKEN, (1,))
        self.gives((((0, 0), 1), ((0, 1), 1), ((1, 0), 0), ((1, 1), 0)), "ways_on", SHOP, ALL, BROKEN, (0, 1))

    def test_links_between_the_sheets_of_a_part_alone_hold(self):
        self.gives((((0, 0), 1), ((1, 0), 1)), "ways_on", SHOP, ALL, TABLES, (0, 1))
        self.gives((((0, 0), 1), ((1, 1), 1)), "ways_on", SHOP, ALL, TABLES, (0, 2))
        self.gives((((0, 0, 0), 1), ((1, 0, 1), 1)), "ways_on", SHOP, ALL, TABLES, (0, 1, 2))

    def test_without_links(self):
        self.gives((((0,), 2), ((1,), 2)), "ways_on", SHOP, FREE, TABLES, (0,))
        self.gives((((), 4),), "ways_on", SHOP, FREE, TABLES, ())
        self.gives((((0,), 1), ((1,), 1)), "ways_on", SHOP, ALONE, TABLES, (0,))

    def test_refused(self):
        for some, wanted, kept in (
            ((0, 3), "NoSheet", {"number": 3}), ((-1, 7), "NoSheet", {"number": -1}),
            ((7, 8), "NoSheet", {"number": 7}), ((2,), "Unfit", {}), ((0, 1, 2), "Unfit", {}),
            ((2, 3), "NoSheet", {"number": 3}),
            ((10 ** 30,), "NoSheet", {"number": 10 ** 30}),
        ):
            self.refuses(wanted, kept, "ways_on", SHOP, FREE, TABLES, some)
            self.refuses(wanted, kept, "fan", SHOP, FREE, some)
            self.refuses(wanted, kept, "told_by", SHOP, FREE, some)
            # The SHEETS are looked at ahead of the end.
            for end in ("least", "most", "many"):
                self.refuses(wanted, kept, "fan_paper", SHOP, FREE, some, end)
                self.refuses(wanted, kept, "is_fan_paper", SHOP, FREE, some, end, TABLES)
        for end in ("", "many", "Least", "greatest", "number"):
            self.refuses("NoWord", {"word": end}, "fan_paper", SHOP, FREE, (0,), end)
            self.refuses("NoWord", {"word": end}, "is_fan_paper", SHOP, FREE, (0,), end, None)


class Fans(Case):
    def test_one_sheet_alone(self):
        self.gives((1, 1), "fan", SHOP, ALONE, (0,))
        self.gives((0, None), "fan", SHOP, ALONE, ())
        self.gives(((1, 1),), "fans", SHOP, ALONE)
        self.gives((0,), "told_by", SHOP, ALONE, (0,))
        self.gives((), "told_by", SHOP, ALONE, ())
        self.gives((), "alike_columns", SHOP, ALONE)
        self.gives((0,), "fewest_telling", SHOP, ALONE)

    def test_all_sheets_go_on_to_themselves(self):
        self.gives((1, 1), "fan", SHOP, ALL, (0, 1, 2))
        # The LINK of city and kind: an order and its good may find no buyer, or many; one and a buyer tell the good.
        linked = ((0, 1, 2), (("city", "kind"), ("good", "item")), ())
        self.gives((0, None), "fan", SHOP, linked, (0, 2))
        self.gives((0, 1), "fan", SHOP, linked, (0, 1))

    def test_another_part_that_goes_on_is_not_this_one(self):
        # An order has a buyer and a good of its own, with both of which it meets, but this need not be that buyer.
        schema = (
            (("a",), (), (), ((1, ("a",), ("b",)), (2, ("a",), ("c",)))), (("b",), (), (("b",),), ()),
            (("c",), (), (("c",),), ()),
        )
        question = ((0, 1, 2), (("a", "c"), ("b", "c")), ())
        self.gives((1, 1), "fan", schema, question, (0,))
        self.gives((0, 1), "fan", schema, question, (0, 1))
        paper = function("fan_paper")(schema, question, (0, 1), "least")
        self.gives(True, "is_fan_paper", schema, question, (0, 1), "least", paper)

    def test_at_most_one_but_maybe_none(self):
        question = ((0, 1), (("item", "name"),), ())
        self.gives((0, 1), "fan", SHOP, question, (0,))
        self.gives(None, "fan_paper", SHOP, question, (0,), "most")
        paper = function("fan_paper")(SHOP, question, (0,), "least")
        self.gives(True, "is_fan_paper", SHOP, question, (0,), "least", paper)
        self.gives(False, "is_fan_paper", SHOP, question, (0,), "most", paper)

    def test_an_empty_key(self):
        question = ((0, 1), (), ())
        self.gives((0, 1), "fan", ONE_ROW, question, ())
        self.gives((0, 1), "fan", ONE_ROW, question, (0,))
        self.gives((0, 1), "told_by", ONE_ROW, question, ())
        self.gives((), "fewest_telling", ONE_ROW, question)

    def test_a_part_of_nothing_goes_on_to_none_in_empty_tables(self):
        self.gives(EMPTY, "fan_paper", SHOP, ALL, (), "least")
        self.gives(True, "is_fan_paper", SHOP, ALL, (), "least", EMPTY)
        self.gives(False, "is_fan_paper", SHOP, ALL, (), "most", EMPTY)
        self.gives(False, "is_fan_paper", SHOP, ALL, (0,), "least", EMPTY)

    def test_rows_of_the_first_sheet_without_a_key_are_not_told(self):
        schema = ((("a",), (), (), ((1, ("a",), ("b",)),)), (("b",), (), (("b",),), ()))
        question = ((0, 1), (("a", "b"),), ())
        self.gives(((1, 1), (0, None)), "fans", schema, question)
        self.gives((0, 1), "told_by", schema, question, (0,))
        self.gives((1,), "told_by", schema, question, (1,))
        self.gives((0,), "fewest_telling", schema, question)
        paper = function("fan_paper")(schema, question, (1,), "most")
        self.assertEqual(2, len(paper[0]))
        self.gives(True, "is_fan_paper", schema, question, (1,), "most", paper)

    def test_alike_columns_in_one_sheet(self):
        question = ((0, 1), (("cust", "name"), ("item", "name")), ())
        wanted = (("cust", "item"), ("cust", "name"), ("item", "name"))
        self.gives(wanted, "alike_columns", SHOP, question)


class Papers(Case):
    def test_things_that_are_none(self):
        for end in ("least", "most"):
            for thing in (
                *STRANGE, TABLES[:2], list(TABLES), (*TABLES, ()), (TABLES[0][::-1], *TABLES[1:]),
                ([*TABLES[0]], *TABLES[1:]), ((("ann", "pen", "a", True),), *TABLES[1:]), BROKEN,
            ):
                self.gives(False, "is_fan_paper", SHOP, ALL, (0,), end, thing)
                self.gives(False, "is_fan_paper", SHOP, ALL, (), end, thing)

    def test_of_however_many_rows(self):
        names = [one + other for one in "abcdefghij" for other in "abcdefghij"]
        buyers = tuple(("rome", "it", name) for name in names)
        tables = ((("aa", "pen", "a", 3),), buyers, (("pen", "ink"),))
        self.gives(True, "is_fan_paper", SHOP, FREE, (0,), "most", tables)
        self.gives(False, "is_fan_paper", SHOP, FREE, (0,), "least", tables)
        self.gives(True, "is_fan_paper", SHOP, ALL, (1,), "least", tables)
        self.gives(False, "is_fan_paper", SHOP, ALL, (1,), "most", tables)


if __name__ == "__main__":
    unittest.main()
