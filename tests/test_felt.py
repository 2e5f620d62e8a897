"""Felt and fixed COLUMNS: edges and wrong inputs. [2] [9]"""

import unittest

from helping import SHOP, STRANGE, WORDS, Case, function

CITIES = ((0, 1), (("cust", "name"),), ("city",))
ALONE = ((0,), (), ())
ALL_COLUMNS = ("city", "cust", "good", "item", "kind", "land", "name", "oid")
EMPTY = ((), (), ())
ONE = ((("ann", "tea", "a", 5),), (("rome", "it", "ann"), ("york", "uk", "bob")), (("tea", "food"),))
OTHER = ((("ann", "tea", "a", 5),), (("rome", "it", "bob"), ("york", "uk", "ann")), (("tea", "food"),))
STAFF = (("boss", "desk", "ward"), (), (), ((1, ("boss", "ward"), ("hall", "lamp")),))
HOUSE = (STAFF, (("hall", "lamp"), ((("hall",), "lamp"),), (("hall", "lamp"),), ()))
NOT_WORDS = ("", "most", "Least", "numbers")


class AlikeBut(Case):
    def test_but_in_nothing(self):
        self.gives(True, "are_alike_but", SHOP, ONE, ONE, ())
        self.gives(False, "are_alike_but", SHOP, ONE, OTHER, ())
        self.gives(True, "are_alike_but", SHOP, EMPTY, EMPTY, ())

    def test_but_in_all(self):
        self.gives(True, "are_alike_but", SHOP, ONE, OTHER, ALL_COLUMNS)
        for less in (EMPTY, (ONE[0], ONE[1][:1], ONE[2]), (*ONE[:2], ())):
            self.gives(False, "are_alike_but", SHOP, ONE, less, ALL_COLUMNS)
            self.gives(False, "are_alike_but", SHOP, less, ONE, ALL_COLUMNS)

    def test_worths_are_the_same(self):
        more = ((("ann", "tea", "a", 6),), *ONE[1:])
        self.gives(False, "are_alike_but", SHOP, ONE, more, ALL_COLUMNS)
        one = ((("a", "a", "a", 1), ("b", "a", "a", 2)), (), ())
        other = ((("a", "a", "a", 2), ("b", "a", "a", 1)), (), ())
        self.gives(True, "are_alike_but", SHOP, one, other, ("cust",))
        self.gives(False, "are_alike_but", SHOP, one, other, ("item",))

    def test_one_to_one(self):
        # Three ROWS that are alike but in kind, of one and of two goods.
        one = ((), (), (("cup", "a"), ("cup", "b"), ("tea", "a")))
        other = ((), (), (("cup", "a"), ("tea", "a"), ("tea", "b")))
        self.gives(False, "are_alike_but", SHOP, one, other, ("kind",))
        self.gives(True, "are_alike_but", SHOP, one, other, ("good", "kind"))
        # Two have the kind a and one has b in both.
        self.gives(True, "are_alike_but", SHOP, one, other, ("good",))
        swapped = ((), (), (("cup", "b"), ("cup", "c"), ("tea", "c")))
        self.gives(True, "are_alike_but", SHOP, one, swapped, ("kind",))

    def test_that_do_not_keep(self):
        one, other = ((("ann", "cup", "a", 1),), (), ()), ((("bob", "cup", "a", 1),), (), ())
        self.gives(True, "are_alike_but", SHOP, one, other, ("cust",))
        self.gives(False, "are_alike_but", SHOP, one, other, ("item", "oid"))

    def test_refused(self):
        self.refuses("NoColumn", {"name": "x"}, "are_alike_but", SHOP, ONE, OTHER, ("city", "x", "y"))
        self.refuses("NoColumn", {"name": ""}, "are_alike_but", SHOP, ONE, OTHER, ("", "a"))


class Fixed(Case):
    def test_fixed(self):
        for some, wanted in (
            ((), ()), (("ward",), ("ward",)), (("desk",), ()), (("desk", "ward"), ("ward",)), (("boss",), ()),
            (("boss", "ward"), ()), (("hall",), ()), (("lamp",), ()), (("hall", "ward"), ()), (("lamp", "ward"), ()),
            (("boss", "desk", "hall", "lamp", "ward"), ()),
        ):
            self.gives(wanted, "fixed_columns", HOUSE, some)

    def test_nothing_is_fixed_in_the_shop(self):
        for some in ((), ("land",), ("name",), ("cust", "name"), ALL_COLUMNS):
            self.gives((), "fixed_columns", SHOP, some)

    def test_fixed_among_themselves_only(self):
        # The first COLUMN refers to a ROW whose KEY is (): there is one such ROW, which stays if its COLUMN does.
        schema = ((("a",), (), (), ((1, ("a",), ("b",)),)), (("b",), (), ((), ("b",)), ()))
        self.gives(("a",), "fixed_columns", schema, ("a",))
        self.gives((), "fixed_columns", schema, ("a", "b"))
        self.gives((), "fixed_columns", schema, ("b",))

    def test_refused(self):
        self.refuses("NoColumn", {"name": "x"}, "fixed_columns", SHOP, ("city", "x", "y"))
        self.refuses("NoColumn", {"name": "ward"}, "fixed_columns", SHOP, ("ward",))


class Feels(Case):
    def test_no_column_is_not_felt(self):
        for word in WORDS:
            for question in (CITIES, ALONE):
                self.gives(False, "feels", SHOP, question, (), word)
                self.gives(None, "parting_pair", SHOP, question, (), word)

    def test_columns(self):
        for word in WORDS:
            for some, wanted in (
                (("city",), True), (("land",), False), (("oid",), False), (("item",), False), (("name",), True),
                (("cust",), True), (("good",), False), (("kind",), False), (("good", "item", "kind"), False),
                (("city", "kind"), True), (ALL_COLUMNS, True),
            ):
                self.gives(wanted, "feels", SHOP, CITIES, some, word)

    def test_columns_of_sheets_that_are_not_chosen(self):
        # What the order refers to changes with the SHEET behind, but the answer does not show it.
        for word in WORDS:
            self.gives(False, "feels", SHOP, ALONE, ALL_COLUMNS, word)
            self.gives(True, "feels", HOUSE, ((0,), (), ("ward",)), ("lamp", "ward"), word)

    def test_how_many_rows_there_are_is_not_felt(self):
        for word in WORDS:
            self.gives(False, "feels", SHOP, ((0, 1), (), ()), ALL_COLUMNS, word)

    def test_felt_by_sums_but_not_by_least(self):
        # The ROW referred to is met in any case; whether others are depends on what they have in b.
        schema = ((("a", "e"), (), (), ((1, ("a", "e"), ("b", "c")),)), (("b", "c"), (), (("b", "c"),), ()))
        question = ((0, 1), (("a", "b"),), ())
        for word, wanted in (("sum", True), ("number", True), ("least", False), ("greatest", False)):
            self.gives(wanted, "feels", schema, question, ("b",), word)
            self.gives(("a", "b") if wanted else (), "felt_columns", schema, question, word)

    def test_pairs_have_one_row_of_the_first_sheet_and_worths_one(self):
        for word in WORDS:
            pair = function("parting_pair")(SHOP, CITIES, ("city",), word)
            self.assertEqual([1, 1], [len(tables[0]) for tables in pair])
            self.gives(True, "is_parting_pair", SHOP, CITIES, ("city",), word, pair)
            self.gives(True, "is_parting_pair", SHOP, CITIES, ("city", "land"), word, pair)
            self.gives(False, "is_parting_pair", SHOP, CITIES, ("land",), word, pair)
            self.gives(False, "is_parting_pair", SHOP, ALONE, ("city",), word, pair)

    def test_things_that_are_no_pairs(self):
        things = [*STRANGE, ONE, [ONE, OTHER], (ONE,), (ONE, OTHER, OTHER), (ONE, list(OTHER)), (ONE, OTHER[:2])]
        things += [(ONE, ONE), (EMPTY, EMPTY), (ONE, (*OTHER[:2], ())), ((*ONE[:2], ()), (*OTHER[:2], ()))]
        things += [(ONE, None), (ONE, ((("ann", "tea", "a", True),), *OTHER[1:])), ((ONE, OTHER),)]
        for word in WORDS:
            self.gives(True, "is_parting_pair", SHOP, CITIES, ("name",), word, (ONE, OTHER))
            self.gives(True, "is_parting_pair", SHOP, CITIES, ("name",), word, (OTHER, ONE))
            for thing in things:
                self.gives(False, "is_parting_pair", SHOP, CITIES, ("name",), word, thing)

    def test_of_however_many_rows(self):
        names = [one + other for one in "abcdefghij" for other in "abcdefghij"]
        buyers = tuple(("rome", "it", name) for name in names)
        moved = tuple(sorted(("bern" if name == "aa" else "rome", "it", name) for name in names))
        orders = (("aa", "tea", "a", 5),)
        pair = ((orders, buyers, (("tea", "food"),)), (orders, moved, (("tea", "food"),)))
        self.gives(True, "is_parting_pair", SHOP, CITIES, ("city",), "sum", pair)
        self.gives(False, "is_parting_pair", SHOP, CITIES, ("land",), "sum", pair)

    def test_felt_columns(self):
        for word in WORDS:
            self.gives((), "felt_columns", SHOP, ALONE, word)
            self.gives(("oid",), "felt_columns", SHOP, ((0,), (), ("oid",)), word)
            self.gives(("city", "cust", "name"), "felt_columns", SHOP, CITIES, word)
            self.gives([], "felt_pairs", SHOP, ALONE, word)
            self.gives([], "felt_pairs", SHOP, CITIES, word)

    def test_refused(self):
        pair = (ONE, OTHER)
        for word in NOT_WORDS:
            # The WORD is looked at ahead of all else.
            for some in (("city",), ("x",)):
                for name in ("feels", "parting_pair"):
                    self.refuses("NoWord", {"word": word}, name, SHOP, CITIES, some, word)
                self.refuses("NoWord", {"word": word}, "is_parting_pair", SHOP, CITIES, some, word, pair)
            for name in ("felt_columns", "felt_pairs"):
                self.refuses("NoWord", {"word": word}, name, SHOP, CITIES, word)
        for word in WORDS:
            for name in ("feels", "parting_pair"):
                self.refuses("NoColumn", {"name": "x"}, name, SHOP, CITIES, ("city", "x", "y"), word)
            self.refuses("NoColumn", {"name": "x"}, "is_parting_pair", SHOP, CITIES, ("x", "y"), word, None)


if __name__ == "__main__":
    unittest.main()
