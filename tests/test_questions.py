"""Alike QUESTIONS, LINKS and SHEETS that can be left out: edges and wrong inputs. [2] [8]"""

import unittest

from helping import SHOP, STRANGE, WORDS, Case, function

ALL = ((0, 1, 2), (("cust", "name"), ("good", "item")), ("city",))
FREE = ((0, 1), (), ())
ALONE = ((0,), (), ())
CITIES = ((0, 1), (("cust", "name"),), ("city",))
EMPTY = ((), (), ())
TABLES = ((("ann", "tea", "a", 5),), (("rome", "it", "ann"), ("rome", "it", "bob")), (("tea", "food"),))
NOT_WORDS = ("", "most", "Sum", "sums", "many", "max")


class Alike(Case):
    def test_a_question_and_itself(self):
        for word in WORDS:
            for question in (ALL, FREE, ALONE, CITIES):
                self.gives(True, "are_alike", SHOP, question, question, word)
                self.gives(None, "parting_tables", SHOP, question, question, word)

    def test_a_sheet_more(self):
        for word, wanted in (("sum", False), ("number", False), ("least", True), ("greatest", True)):
            self.gives(wanted, "are_alike", SHOP, FREE, ALONE, word)
            self.gives(wanted, "are_alike", SHOP, ALONE, FREE, word)
        for word in WORDS:
            self.gives(True, "are_alike", SHOP, ((0, 1), (("cust", "name"),), ()), ALONE, word)
            self.gives(False, "are_alike", SHOP, ((0, 1), (("item", "name"),), ()), ALONE, word)

    def test_groups(self):
        for word in WORDS:
            self.gives(False, "are_alike", SHOP, ALONE, ((0,), (), ("cust",)), word)
            self.gives(False, "are_alike", SHOP, ((0,), (), ("cust",)), ((0,), (), ("cust", "item")), word)
            self.gives(False, "are_alike", SHOP, ((0,), (), ("cust",)), ((0,), (), ("item",)), word)
            two = ((0, 1, 2), (("cust", "name"), ("good", "item")), ("good", "name"))
            # What is shown stands in the order of the GROUPS: good ahead of name, but cust ahead of item.
            self.gives(False, "are_alike", SHOP, two, ((0,), (), ("cust", "item")), word)
            two = ((0, 1, 2), (("cust", "name"), ("good", "item")), ("cust", "good"))
            self.gives(True, "are_alike", SHOP, two, ((0,), (), ("cust", "item")), word)

    def test_a_link_that_follows(self):
        # Both goods that a pair of LINKS finds are one, as it has a KEY.
        more = ((0, 1, 2), (("cust", "good"), ("cust", "name"), ("good", "name")), ())
        less = ((0, 1, 2), (("cust", "good"), ("cust", "name")), ())
        for word in WORDS:
            self.gives(True, "are_alike", SHOP, more, less, word)

    def test_an_empty_key(self):
        schema = ((("a",), (), (), ((1, (), ()),)), (("b",), (), ((),), ()), (("c",), (), ((),), ()))
        for word in WORDS:
            self.gives(True, "are_alike", schema, ((0, 1), (), ()), ((0,), (), ()), word)
            # The SHEET to which nothing refers may have no ROW.
            self.gives(False, "are_alike", schema, ((0, 2), (), ()), ((0,), (), ()), word)

    def test_refused(self):
        for word in NOT_WORDS:
            self.refuses("NoWord", {"word": word}, "are_alike", SHOP, ALL, FREE, word)
            self.refuses("NoWord", {"word": word}, "parting_tables", SHOP, ALL, FREE, word)
            self.refuses("NoWord", {"word": word}, "is_parting", SHOP, ALL, FREE, word, None)
            # The WORD is looked at ahead of all else.
            for some in ((), (3,), (0,), (1,), (-1,)):
                self.refuses("NoWord", {"word": word}, "can_leave_out", SHOP, ALL, some, word)
            for name in ("sets_to_leave_out", "most_left_out", "least_question"):
                self.refuses("NoWord", {"word": word}, name, SHOP, ALL, word)


class Parting(Case):
    def test_is_parting(self):
        for word, wanted in (("sum", True), ("number", True), ("least", False), ("greatest", False)):
            self.gives(wanted, "is_parting", SHOP, FREE, ALONE, word, TABLES)
            self.gives(False, "is_parting", SHOP, FREE, ALONE, word, EMPTY)
            self.gives(False, "is_parting", SHOP, FREE, FREE, word, TABLES)

    def test_worths_of_nothing_part_no_sums(self):
        tables = ((("ann", "tea", "a", 0),), *TABLES[1:])
        self.gives(False, "is_parting", SHOP, FREE, ALONE, "sum", tables)
        self.gives(True, "is_parting", SHOP, FREE, ALONE, "number", tables)

    def test_things_that_are_none(self):
        things = [*STRANGE, TABLES[:2], list(TABLES), (*TABLES, ()), (TABLES[0], TABLES[1][::-1], TABLES[2])]
        things += [((("ann", "tea", "a", True),), *TABLES[1:]), (TABLES[0], list(TABLES[1]), TABLES[2])]
        # The first ones have unlike answers, too, but do not keep the SCHEMA.
        things += [(*TABLES[:2], ()), (TABLES[0], (("rome", "it", "ann"), ("rome", "uk", "bob")), TABLES[2])]
        things += [(TABLES[0], (("rome", "it", "ann"), ("york", "uk", "ann")), TABLES[2])]
        for word in WORDS:
            for thing in things:
                self.gives(False, "is_parting", SHOP, FREE, ALONE, word, thing)

    def test_of_however_many_rows(self):
        names = [one + other for one in "abcdefghij" for other in "abcdefghij"]
        tables = ((("aa", "tea", "a", 5),), tuple(("rome", "it", name) for name in names), (("tea", "food"),))
        self.gives(True, "is_parting", SHOP, FREE, ALONE, "sum", tables)
        self.gives(False, "is_parting", SHOP, CITIES, (*ALL[:2], ("city",)), "sum", tables)

    def test_worths_are_one(self):
        tables = function("parting_tables")(SHOP, FREE, ALONE, "sum")
        self.assertEqual({1}, {row[-1] for row in tables[0]})


class Links(Case):
    def test_full_links(self):
        self.gives((), "full_links", SHOP, FREE)
        self.gives((), "full_links", SHOP, ALONE)
        self.gives((("cust", "name"),), "full_links", SHOP, CITIES)
        # Alike COLUMNS of one SHEET are no LINK.
        self.gives((("cust", "name"), ("item", "name")), "full_links", SHOP,
                   ((0, 1), (("cust", "name"), ("item", "name")), ()))
        wanted = (("cust", "good"), ("cust", "name"), ("good", "item"), ("good", "name"), ("item", "name"))
        self.gives(wanted, "full_links", SHOP, ((0, 1, 2), (("cust", "good"), ("good", "name"), ("item", "name")), ()))

    def test_links_that_follow_from_references(self):
        schema = (
            (("a",), (), (), ((1, ("a",), ("b",)), (2, ("a",), ("d",)))),
            (("b", "c"), (), (("b",),), ((2, ("b", "c"), ("d", "e")),)),
            (("d", "e"), ((("d",), "e"),), (("d",), ("d", "e")), ()),
        )
        question = ((0, 1, 2), (("a", "b"), ("a", "d"), ("c", "e")), ())
        self.gives((("a", "b"), ("a", "d"), ("b", "d"), ("c", "e")), "full_links", schema, question)
        self.gives((("c", "e"),), "needless_links", schema, question)

    def test_needless_links(self):
        self.gives((), "needless_links", SHOP, FREE)
        self.gives((), "needless_links", SHOP, CITIES)


class LeftOut(Case):
    def test_question_without(self):
        self.gives((*ALL[:2], ALL[2]), "question_without", SHOP, ALL, ())
        self.gives(((0, 1), (("cust", "name"),), ("city",)), "question_without", SHOP, ALL, (2,))
        self.gives(ALONE, "question_without", SHOP, (*ALL[:2], ()), (1, 2))
        self.gives(ALONE, "question_without", SHOP, ALONE, ())

    def test_links_that_are_not_told_stay(self):
        # cust and name are alike by way of good alone, which goes.
        question = ((0, 1, 2), (("cust", "good"), ("good", "name")), ())
        self.gives(((0, 1), (("cust", "name"),), ()), "question_without", SHOP, question, (2,))
        self.gives(((0, 1, 2), (("cust", "good"), ("cust", "name"), ("good", "name")), ()),
                   "question_without", SHOP, question, ())

    def test_refused(self):
        for some, wanted, kept in (
            ((0,), "Unfit", {}), ((1,), "Unfit", {}), ((0, 1, 2), "Unfit", {}), ((1, 2), "Unfit", {}),
            ((3,), "NoSheet", {"number": 3}), ((0, 5), "NoSheet", {"number": 5}), ((-1, 9), "NoSheet", {"number": -1}),
            ((1, 4, 5), "NoSheet", {"number": 4}),
        ):
            self.refuses(wanted, kept, "question_without", SHOP, ALL, some)
            self.refuses(wanted, kept, "can_leave_out", SHOP, ALL, some, "sum")
        self.refuses("Unfit", {}, "question_without", SHOP, FREE, (2,))
        self.refuses("Unfit", {}, "can_leave_out", SHOP, ALONE, (1,), "least")

    def test_sets(self):
        for word in WORDS:
            self.gives([()], "sets_to_leave_out", SHOP, ALONE, word)
            self.gives((), "most_left_out", SHOP, ALONE, word)
            self.gives(ALONE, "least_question", SHOP, ALONE, word)
            self.gives([(), (2,)], "sets_to_leave_out", SHOP, ALL, word)
            self.gives([(), (1,), (1, 2), (2,)], "sets_to_leave_out", SHOP, (*ALL[:2], ()), word)
            self.gives((1, 2), "most_left_out", SHOP, (*ALL[:2], ()), word)
            self.gives([()], "sets_to_leave_out", SHOP, (*ALL[:2], ("city", "kind")), word)

    def test_what_says_more_stays(self):
        # Nothing refers to these SHEETS: each of them may have no such ROW.
        schema = ((("a",), (), (), ()), (("b",), (), (), ()), (("c",), (), (), ()))
        question = ((0, 1, 2), (("a", "b"), ("a", "c"), ("b", "c")), ())
        self.gives([()], "sets_to_leave_out", schema, question, "sum")
        schema = (
            (("a",), (), (), ()), (("b",), (), (("b",),), ((2, ("b",), ("c",)),)), (("c",), (), (("c",),), ()),
        )
        question = ((0, 1, 2), (("a", "b"), ("a", "c")), ())
        self.gives([(), (2,)], "sets_to_leave_out", schema, question, "sum")
        free = ((("a",), (), (), ()), (("b",), (), (), ()), (("c",), (), (), ()), (("d",), (), (), ()))
        self.gives([()], "sets_to_leave_out", free, ((0, 1, 2), (), ()), "least")
        twice = (
            (("a",), (), (), ()),
            (("b",), (), (("b",),), ((2, ("b",), ("c",)), (3, ("b",), ("d",)))),
            (("c",), (), (("c",),), ((3, ("c",), ("d",)),)),
            (("d",), (), (("d",),), ()),
        )
        question = ((0, 2, 3), (("a", "c"), ("a", "d")), ("a",))
        self.gives((3,), "most_left_out", twice, question, "sum")
        self.gives(((0, 2), (("a", "c"),), ("a",)), "least_question", twice, question, "sum")

    def test_each_list_of_sets_is_new(self):
        first = function("sets_to_leave_out")(SHOP, ALL, "sum")
        first.append("more")
        self.assertEqual([(), (2,)], function("sets_to_leave_out")(SHOP, ALL, "sum"))


if __name__ == "__main__":
    unittest.main()
