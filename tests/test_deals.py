"""DEALINGS, HOUSES and what is told at home: edges and wrong inputs. [2] [11]"""

import unittest

from helping import STRANGE, WORDS, Case, function

SHORT = (
    (("cust", "oid"), (), (("oid",),), ((1, ("cust",), ("name",)),)),
    (("city", "name"), (), (("name",),), ()),
)
CITIES = ((0, 1), (("cust", "name"),), ("city",))
ALONE = ((0,), (), ())
FREE = ((0, 1), (), ())
TABLES = ((("ann", "a", 5), ("ann", "b", 2), ("bob", "c", 1)), (("bern", "ann"), ("rome", "bob")))
EMPTY = ((), ())
BROKEN = ((("ann", "a", 5), ("eve", "b", 2)), (("bern", "ann"),))
SENT = (2, ((("b",), 1), (("bob",), 1)))
ONE_HOUSE = (1, ())
ALIKE = (("cust",), ("name",))
APART = (("oid",), ("name",))
COPIED = (None, None)
NOT_WORDS = ("", "most", "SUM", "nothing")


class Dealings(Case):
    def test_dealings(self):
        self.is_such("is_dealing", things=(
            ONE_HOUSE, SENT, (10 ** 30, ()), (10 ** 30, ((("a",), 10 ** 30 - 1),)), (1, (((), 0),)),
            (3, (((), 2), (("a",), 0), (("a", "a"), 1), (("b", "a", "c", "d"), 1))),
            (100, tuple((("a" * many,), many) for many in range(1, 9))),
        ))

    def test_other_things(self):
        self.is_not_such("is_dealing", things=(
            (0, ()), (-1, ()), (True, ()), ("1", ()), (None, ()), (1,), (1, (), ()), [1, ()], (1, []), (1, None),
            (2, ((("b",), 1), (("a",), 1))), (2, ((("a",), 0), (("a",), 1))), (2, ((("a",), 1), (("a",), 1))),
            (2, ((("a",), 2),)), (2, ((("a",), -1),)), (2, ((("a",), True),)), (2, ((("a",), False),)),
            (2, ((["a"], 1),)), (2, [(("a",), 1)]), (2, ([("a",), 1],)), (2, (("a", 1),)), (2, ((("A",), 1),)),
            (2, ((("",), 1),)), (2, ((("a", 1), 1),)), (2, ((("toolongit",), 1),)), (2, ((("a",),),)),
            (2, ((("a",), 1, 1),)), (2, (None,)), (2, ((None, 1),)), (2, ((("a",), None),)), (2, (("a",), 1)),
            ((), 2), (0, (((), 0),)), (2, (((("a",),), 1),)),
        ))

    def test_house_of(self):
        dealing = (3, (((), 2), (("a",), 0), (("a", "b"), 1)))
        for names, house in (((), 2), (("a",), 0), (("a", "b"), 1), (("b", "a"), 0), (("b",), 0), (("a", "a"), 0)):
            self.gives(house, "house_of", dealing, names)
        self.gives(0, "house_of", ONE_HOUSE, ("a",))
        self.gives(0, "house_of", ONE_HOUSE, ())


class Houses(Case):
    def test_rows_at(self):
        self.gives((TABLES[0][:2], TABLES[1][:1]), "rows_at", SHORT, TABLES, ALIKE, SENT, 0)
        self.gives((TABLES[0][2:], TABLES[1][1:]), "rows_at", SHORT, TABLES, ALIKE, SENT, 1)
        for house in (0, 1):
            self.gives(TABLES, "rows_at", SHORT, TABLES, COPIED, SENT, house)
            self.gives(EMPTY, "rows_at", SHORT, EMPTY, ALIKE, SENT, house)
        self.gives((TABLES[0], ()), "rows_at", SHORT, TABLES, (None, ()), (3, (((), 2),)), 1)
        self.gives(TABLES, "rows_at", SHORT, TABLES, (None, ()), (3, (((), 2),)), 2)

    def test_by_one_column_several_times_or_in_another_order(self):
        dealing = (2, ((("ann", "a"), 1), (("b", "ann"), 1), (("bob", "bob"), 1)))
        self.gives((TABLES[0][:1], TABLES[1]), "rows_at", SHORT, TABLES, (("cust", "oid"), None), dealing, 1)
        self.gives((TABLES[0][1:2], TABLES[1]), "rows_at", SHORT, TABLES, (("oid", "cust"), None), dealing, 1)
        self.gives((TABLES[0][2:], TABLES[1]), "rows_at", SHORT, TABLES, (("cust", "cust"), None), dealing, 1)

    def test_told_names_may_go_to_the_first_house(self):
        self.gives(EMPTY, "rows_at", SHORT, TABLES, ALIKE, (2, ((("ann",), 0), (("zoe",), 1))), 1)

    def test_no_such_house(self):
        for dealing in (SENT, (2, ())):
            for house in (2, -1, -2, 10 ** 30):
                self.refuses("NoHouse", {"number": house}, "rows_at", SHORT, TABLES, ALIKE, dealing, house)

    def test_houses_of(self):
        self.gives([(0, 1)] * 3, "houses_of", SHORT, TABLES, CITIES, COPIED, SENT)
        self.gives([(0,), (0,), (1,)], "houses_of", SHORT, TABLES, CITIES, (None, ("name",)), SENT)
        self.gives([], "houses_of", SHORT, EMPTY, CITIES, ALIKE, SENT)
        self.gives([(0, 1)] * 3, "houses_of", SHORT, TABLES, ALONE, (None, ("name",)), SENT)
        self.gives([(0,)], "houses_of", SHORT, BROKEN, CITIES, ALIKE, SENT)

    def test_each_list_is_new(self):
        for name, arguments in (
            ("houses_of", (SHORT, TABLES, CITIES, ALIKE, SENT)),
            ("answers_at", (SHORT, TABLES, CITIES, "sum", ALIKE, SENT)),
            ("deals_at_home", (SHORT, CITIES, "sum")),
        ):
            first = function(name)(*arguments)
            before = list(first)
            first.append("more")
            self.assertEqual(before, function(name)(*arguments))

    def test_answers(self):
        for word, one, other in (("sum", 7, 1), ("number", 2, 1), ("least", 2, 1), ("greatest", 5, 1)):
            wanted = [((("bern",), one),), ((("rome",), other),)]
            self.gives(wanted, "answers_at", SHORT, TABLES, CITIES, word, ALIKE, SENT)
            self.gives([(), ()], "answers_at", SHORT, EMPTY, CITIES, word, ALIKE, SENT)

    def test_put_together(self):
        answers = (((("a",), 3), (("b",), -1)), (), ((("a",), 4),), ((("a",), 4), (("c",), 0)))
        for word, many in (("sum", 11), ("number", 11), ("least", 3), ("greatest", 4)):
            self.gives(((("a",), many), (("b",), -1), (("c",), 0)), "put_together", word, answers)
            self.gives((), "put_together", word, ())
            self.gives((), "put_together", word, ((), ()))
        self.gives((((), 5),), "put_together", "sum", ((((), 2),), (((), 3),)))

    def test_refused(self):
        for word in NOT_WORDS:
            kept = {"word": word}
            self.refuses("NoWord", kept, "answers_at", SHORT, TABLES, CITIES, word, ALIKE, SENT)
            self.refuses("NoWord", kept, "put_together", word, ())
            self.refuses("NoWord", kept, "is_told_at_home", SHORT, CITIES, word, ALIKE)
            self.refuses("NoWord", kept, "home_paper", SHORT, CITIES, word, ALIKE)
            self.refuses("NoWord", kept, "is_home_paper", SHORT, CITIES, word, ALIKE, None)
            self.refuses("NoWord", kept, "deals_at_home", SHORT, CITIES, word)


class AtHome(Case):
    def test_told_at_home(self):
        for deal, by_sum, by_least in (
            (COPIED, False, True), (((), ()), True, True), (((), None), True, True), (((), ("name",)), False, False),
            ((("cust",), None), True, True), (ALIKE, True, True), (APART, False, False),
            ((("cust", "cust"), ("name",)), False, False), ((("cust", "cust"), ("name", "name")), True, True),
            ((None, ("city",)), True, True), ((("oid",), ("city",)), False, False),
        ):
            for word in ("sum", "number"):
                self.gives(by_sum, "is_told_at_home", SHORT, CITIES, word, deal)
            for word in ("least", "greatest"):
                self.gives(by_least, "is_told_at_home", SHORT, CITIES, word, deal)

    def test_sheets_that_are_not_chosen_do_not_matter(self):
        for deal in (COPIED, (None, ("name",))):
            self.gives(False, "is_told_at_home", SHORT, ALONE, "sum", deal)
            self.gives(True, "is_told_at_home", SHORT, ALONE, "least", deal)
            paper = function("home_paper")(SHORT, ALONE, "sum", deal)
            self.gives(True, "is_home_paper", SHORT, ALONE, "sum", deal, paper)

    def test_by_least_some_other_meeting_can_be_at_home(self):
        # Without LINKS an order meets its own buyer, too: with that it is at home.
        for word, wanted in (("sum", False), ("number", False), ("least", True), ("greatest", True)):
            self.gives(wanted, "is_told_at_home", SHORT, FREE, word, ALIKE)
            self.gives(False, "is_told_at_home", SHORT, (*FREE[:2], ("city",)), word, ALIKE)

    def test_groups(self):
        for groups, deal, wanted in (
            (("city",), ALIKE, False), (("cust",), ALIKE, True), (("name",), ALIKE, True), ((), ALIKE, False),
            (("oid",), ALIKE, True), (("oid",), APART, False), ((), ((), ()), True), ((), COPIED, True),
            (("cust",), (("oid",), None), False), (("city",), (None, ("city",)), True),
        ):
            question = (*CITIES[:2], groups)
            self.gives(wanted, "groups_at_home", SHORT, question, deal)
            paper = function("groups_paper")(SHORT, question, deal)
            self.assertIs(wanted, paper is None)
            self.gives(not wanted, "is_groups_paper", SHORT, question, deal, paper)

    def test_is_home_paper(self):
        self.gives(True, "is_home_paper", SHORT, CITIES, "sum", COPIED, (TABLES, (2, ())))
        self.gives(False, "is_home_paper", SHORT, CITIES, "sum", COPIED, (TABLES, ONE_HOUSE))
        self.gives(False, "is_home_paper", SHORT, CITIES, "least", COPIED, (TABLES, (2, ())))
        self.gives(True, "is_home_paper", SHORT, CITIES, "least", APART, (TABLES, SENT))
        self.gives(False, "is_home_paper", SHORT, CITIES, "sum", ALIKE, (TABLES, SENT))
        self.gives(True, "is_home_paper", SHORT, CITIES, "sum", COPIED, (TABLES, (100, ())))
        empty = ((("ann", "a", 0),), (("bern", "ann"),))
        self.gives(False, "is_home_paper", SHORT, CITIES, "sum", COPIED, (empty, (2, ())))
        self.gives(True, "is_home_paper", SHORT, CITIES, "number", COPIED, (empty, (2, ())))

    def test_is_groups_paper(self):
        self.gives(False, "is_groups_paper", SHORT, CITIES, ALIKE, (TABLES, SENT))
        self.gives(True, "is_groups_paper", SHORT, CITIES, APART, (TABLES, SENT))
        two = (TABLES[0], (("rome", "ann"), ("rome", "bob")))
        self.gives(True, "is_groups_paper", SHORT, CITIES, ALIKE, (two, SENT))
        self.gives(False, "is_groups_paper", SHORT, CITIES, ALIKE, (two, ONE_HOUSE))
        self.gives(False, "is_groups_paper", SHORT, CITIES, ALIKE, (two, (3, ((("ann",), 2), (("bob",), 2)))))

    def test_things_that_are_no_papers(self):
        pair = (TABLES, SENT)
        things = [*STRANGE, pair[0], [*pair], (TABLES, list(SENT)), (list(TABLES), SENT), (*pair, ()), pair[::-1]]
        things += [(TABLES, (0, ())), (TABLES[:1], SENT), (BROKEN, SENT), ((TABLES[0][::-1], TABLES[1]), SENT)]
        things += [(TABLES, (2, ((("b",), True),))), (TABLES, None), (EMPTY, SENT), (TABLES, ONE_HOUSE)]
        for thing in things:
            for word in WORDS:
                self.gives(False, "is_home_paper", SHORT, CITIES, word, APART, thing)
            self.gives(False, "is_groups_paper", SHORT, CITIES, APART, thing)

    def test_of_however_many_rows(self):
        names = [one + other for one in "abcdefghij" for other in "abcde"]
        tables = (tuple((name, name, 1) for name in names), tuple(("rome", name) for name in names))
        dealing = (100, tuple(((name,), at) for at, name in enumerate(names)))
        self.gives(False, "is_home_paper", SHORT, CITIES, "sum", ALIKE, (tables, dealing))
        self.gives(True, "is_groups_paper", SHORT, CITIES, ALIKE, (tables, dealing))

    def test_deals_at_home(self):
        self.gives([(("cust",), None), (("oid",), None)], "deals_at_home", SHORT, ALONE, "sum")
        wanted = [COPIED, (("cust",), None), (("oid",), None)]
        self.gives(wanted, "deals_at_home", SHORT, ALONE, "least")
        wanted = [(None, ("city",)), (None, ("name",)), (("cust",), None), (("oid",), None)]
        self.gives(wanted, "deals_at_home", SHORT, FREE, "number")
        # By least an order can meet its own buyer alone.
        wanted = [COPIED, (None, ("city",)), (None, ("name",)), (("cust",), None), ALIKE, (("oid",), None)]
        self.gives(wanted, "deals_at_home", SHORT, FREE, "greatest")


if __name__ == "__main__":
    unittest.main()
