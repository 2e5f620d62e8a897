"""PLANS, what they bring and which are right: edges and wrong inputs. [2] [10]"""

import unittest

from helping import SHOP, STRANGE, WORDS, Case, function

THREE = ((0, 1, 2), (("cust", "name"), ("good", "item")), ("city",))
FREE = ((0, 1, 2), (("good", "item"),), ())
ALONE = ((0,), (), ())
BY_NAME = (("cust",), ("name",), None)
BY_ITEM = (("item",), ("name",), None)
COPIED = (None, None, None)
EMPTY = ((), (), ())
TABLES = (
    (("ann", "pen", "a", 5), ("ann", "tea", "b", 2), ("bob", "tea", "c", 1)),
    (("bern", "ch", "ann"), ("rome", "it", "bob")),
    (("pen", "desk"), ("tea", "food")),
)
# The second order has no buyer, and there are two goods of one name.
BROKEN = (
    (("ann", "pen", "a", 5), ("eve", "pen", "b", 2)),
    (("bern", "ch", "ann"),),
    (("pen", "desk"), ("pen", "food")),
)
DEALING = (2, ((("bob",), 1), (("pen",), 1)))
FLAT = ("join", 0, ("join", 1, 2))
PLAIN = ((), FLAT)
NOT_WORDS = ("", "most", "fold", "Sum")


class WhatPlansAre(Case):
    def test_plans(self):
        self.is_such("is_plan", SHOP, THREE, things=(
            PLAIN, ((), ("join", ("join", 2, 0), 1)), ((2,), ("join", 0, 1)), ((), ("fold", FLAT)),
            ((), ("home", FLAT)),
            ((), ("join", ("home", 0), ("join", ("home", 1), ("home", 2)))), ((2,), ("home", ("fold", ("join", 1, 0)))),
            ((2,), ("fold", ("home", ("fold", ("fold", ("join", ("fold", 0), 1)))))),
        ))
        self.is_such("is_plan", SHOP, ALONE, things=(((), 0), ((), ("fold", 0)), ((), ("home", 0))))
        deep = 0
        for _ in range(10):
            deep = ("fold", deep)
        self.gives(True, "is_plan", SHOP, ALONE, ((), deep))
        self.gives(True, "is_plan", SHOP, FREE, ((1, 2), 0))

    def test_other_things(self):
        things = [((), 0), ((), ("join", 0, 1)), ((2,), FLAT), ((1,), ("join", 0, 2)), ((0,), ("join", 1, 2))]
        things += [((1, 2), 0), ((2, 1), 0), ((2, 2), ("join", 0, 1)), ((3,), FLAT), ((-1,), FLAT)]
        things += [([2], ("join", 0, 1)), ((), (([],), 0, 1)), ((), ("join", [0], ("join", 1, 2)))]
        things += [((True,), ("join", 0, 2)), ((None,), FLAT), (None, FLAT), (2, ("join", 0, 1)), ((), FLAT, ())]
        things += [((),), [(), FLAT], ((), list(FLAT)), ((), ["join", 0, 1]), ((), ("join", 0, 1, 2))]
        things += [((), ("join", FLAT))]
        things += [((), ("join", 0, ("join", 1, 1))), ((), ("join", FLAT, 2)), ((), ("join", 0, ("join", 1, 3)))]
        things += [((), ("join", False, ("join", 1, 2))), ((), ("join", 0, ("join", True, 2)))]
        things += [((), ("join", "0", FLAT)), ((), ("home", FLAT, 0)), ((), "home")]
        things += [((), ("fold", FLAT, FLAT)), ((), ("fold",)), ((), ("bold", FLAT))]
        things += [((), ("home", ("home", FLAT))), ((), ("home", ("fold", ("join", 0, ("join", ("home", 1), 2)))))]
        things += [((), ("join", 0, ("home", ("join", ("home", 1), 2)))), ((), (FLAT,)), ((), (0,)), ((), ())]
        things += [((), None)]
        things += [((), (0, 1)), ((), ("join", 0, ["join", 1, 2])), ((), ("join", 0, None)), ((), (("join",), 0, 1))]
        things += [((), (["fold"], FLAT)), ((), ("join", 0, ("join", 1, ("2",)))), ((), 10 ** 30), ((), -1)]
        self.is_not_such("is_plan", SHOP, THREE, things=things)
        things = (((), 1), ((), ("join", 0, 1)), ((1,), 0), ((), False), ((0,), 0))
        self.is_not_such("is_plan", SHOP, ALONE, things=things)

    def test_homes_and_sizes(self):
        for plan, homes, size in (
            (PLAIN, (), (3, 3)), (((), ("home", FLAT)), ((0, 1, 2),), (3, 1)),
            (((2,), ("home", ("join", 1, 0))), ((0, 1),), (2, 1)), (((1, 2), 0), (), (1, 1)),
            (((1, 2), ("home", ("fold", 0))), ((0,),), (1, 1)),
            (((), ("join", ("home", 2), ("home", ("join", 1, 0)))), ((0, 1), (2,)), (3, 2)),
            (((), ("fold", ("join", ("home", ("fold", 2)), ("join", 1, ("fold", 0))))), ((2,),), (3, 3)),
        ):
            self.gives(homes, "homes_of", plan)
            self.gives(size, "plan_size", plan)


class Brought(Case):
    def test_without_homes_each_meeting_comes_once(self):
        wanted = (((0, 0, 0), 1), ((1, 0, 1), 1), ((2, 1, 1), 1))
        for deal in (COPIED, BY_ITEM, BY_NAME, (("oid",), (), ("kind",))):
            for dealing in ((1, ()), DEALING, (3, ())):
                self.gives(wanted, "brought", SHOP, THREE, deal, dealing, TABLES, PLAIN)
                self.gives(wanted, "brought", SHOP, THREE, deal, dealing, TABLES, ((), ("fold", FLAT)))

    def test_homes_multiply(self):
        plan = ((), ("join", ("home", 0), ("join", ("home", 1), ("home", 2))))
        for deal, many in ((COPIED, 27), ((("oid",), None, None), 9), ((("oid",), (), None), 3), (((),) * 3, 1)):
            wanted = tuple((meeting, many) for meeting in ((0, 0, 0), (1, 0, 1), (2, 1, 1)))
            self.gives(wanted, "brought", SHOP, THREE, deal, (3, ()), TABLES, plan)

    def test_a_home_of_several_sheets(self):
        plan = ((), ("join", ("home", ("join", 0, 2)), 1))
        # The order of the pen is in HOUSE 1, where its good is, too, if goods are copied or dealt by good.
        for good, many in ((None, 1), (("good",), 1), (("kind",), 0)):
            wanted = (((0, 0, 0), many), ((1, 0, 1), 1), ((2, 1, 1), 1))
            self.gives(wanted, "brought", SHOP, THREE, (("item",), None, good), DEALING, TABLES, plan)

    def test_the_rest_has_all_links_that_hold(self):
        # Without the goods, cust and item are still alike, and so is the name.
        question = ((0, 1, 2), (("cust", "good"), ("good", "item"), ("good", "name")), ())
        tables = ((("ann", "ann", "a", 5), ("bob", "ann", "b", 1)), (("bern", "ch", "ann"),), (("ann", "x"),))
        self.gives((((0, 0), 1),), "brought", SHOP, question, COPIED, (1, ()), tables, ((2,), ("join", 0, 1)))

    def test_tables_without_rows_and_such_that_do_not_keep(self):
        self.gives((), "brought", SHOP, THREE, BY_NAME, DEALING, EMPTY, PLAIN)
        self.gives((), "plan_answer", SHOP, THREE, "sum", BY_NAME, DEALING, EMPTY, PLAIN)
        self.gives(0, "handed_on", SHOP, THREE, BY_NAME, DEALING, EMPTY, ((), ("home", FLAT)))
        self.gives((((0, 0, 0), 1), ((0, 0, 1), 1)), "brought", SHOP, THREE, BY_NAME, DEALING, BROKEN, PLAIN)
        self.gives(((("bern",), 10),), "plan_answer", SHOP, THREE, "sum", BY_NAME, DEALING, BROKEN, PLAIN)

    def test_answers(self):
        plan = ((), ("join", ("home", 0), ("home", ("join", 1, 2))))
        # Three HOUSES have all of the copied home, orders are in one each.
        for word, wanted in (
            ("sum", ((("bern",), 21), (("rome",), 3))), ("number", ((("bern",), 6), (("rome",), 3))),
            ("least", ((("bern",), 2), (("rome",), 1))), ("greatest", ((("bern",), 5), (("rome",), 1))),
        ):
            self.gives(wanted, "plan_answer", SHOP, THREE, word, (("oid",), None, None), (3, ()), TABLES, plan)

    def test_meetings_never_brought_are_left_aside(self):
        plan = ((2,), ("home", ("join", 0, 1)))
        for word, wanted in (("sum", 2), ("number", 1), ("least", 2), ("greatest", 2)):
            self.gives(((("bern",), wanted),), "plan_answer", SHOP, THREE, word, BY_ITEM, DEALING, TABLES, plan)

    def test_handed_on(self):
        for tree, many in (
            # Without homes nothing is handed on; a home of orders: each order from the HOUSE where it is.
            (FLAT, 0), (("fold", FLAT), 0), (("join", ("home", 0), ("join", 1, 2)), 3),
            # Unlike pairs of cust and item; copied goods come from both HOUSES, good is wanted, kind is not.
            (("join", ("home", ("fold", 0)), ("join", 1, 2)), 3), (("join", 0, ("join", 1, ("home", ("fold", 2)))), 4),
            (("join", ("home", ("join", 0, 2)), 1), 3), (("join", ("home", ("fold", ("join", 0, 2))), 1), 2),
            (("home", FLAT), 3), (("home", ("fold", FLAT)), 2), (("home", ("join", 0, ("fold", ("join", 1, 2)))), 3),
            (("join", ("home", ("fold", 0)), ("home", ("join", 2, 1))), 7),
        ):
            self.gives(many, "handed_on", SHOP, THREE, BY_NAME, DEALING, TABLES, ((), tree))

    def test_a_fold_of_nothing_wanted(self):
        question = ((0, 1), (), ())
        plan = ((), ("join", 0, ("home", ("fold", 1))))
        self.gives(2, "handed_on", SHOP, question, COPIED, (2, ()), TABLES, plan)
        self.gives(0, "handed_on", SHOP, question, COPIED, (2, ()), EMPTY, plan)
        self.gives(1, "handed_on", SHOP, question, (None, (), None), (2, ()), TABLES, plan)


class Right(Case):
    def test_without_homes_and_nothing_left_out(self):
        for word in WORDS:
            for question, plan in ((THREE, PLAIN), (ALONE, ((), 0)), (FREE, ((), ("fold", FLAT)))):
                for deal in (COPIED, BY_NAME):
                    self.gives(True, "is_right", SHOP, question, word, deal, plan)
                    self.gives(None, "a_wrong", SHOP, question, word, deal, plan)

    def test_what_is_left_out(self):
        for word, wanted in (("sum", False), ("number", False), ("least", True), ("greatest", True)):
            self.gives(wanted, "is_right", SHOP, FREE, word, COPIED, ((1,), ("join", 0, 2)))
            self.gives(True, "is_right", SHOP, FREE, word, COPIED, ((2,), ("join", 0, 1)))

    def test_homes_of_copied_sheets(self):
        plan = ((), ("join", 0, ("home", ("join", 1, 2))))
        for word, wanted in (("sum", False), ("number", False), ("least", True), ("greatest", True)):
            self.gives(wanted, "is_right", SHOP, THREE, word, (("oid",), None, None), plan)
            self.gives(True, "is_right", SHOP, THREE, word, (None, None, ("good",)), plan)

    def test_dealt_by_nothing_and_by_one_column_twice(self):
        plan = ((2,), ("home", ("join", 0, 1)))
        for deal, wanted in (
            (((), (), None), True), (((), ("name",), None), False), ((("cust", "cust"), ("name", "name"), ()), True),
            ((("cust", "cust"), ("name",), ()), False), ((("cust",), None, ("kind",)), True),
        ):
            for word in WORDS:
                self.gives(wanted, "is_right", SHOP, THREE, word, deal, plan)
                paper = function("a_wrong")(SHOP, THREE, word, deal, plan)
                self.assertIs(wanted, paper is None)
                self.gives(not wanted, "is_wrong", SHOP, THREE, word, deal, plan, paper)

    def test_by_least_another_meeting_will_do(self):
        # Without LINKS an order meets its own buyer, too, and with that it is at home.
        plan = ((2,), ("home", ("join", 0, 1)))
        for word, wanted in (("sum", False), ("number", False), ("least", True), ("greatest", True)):
            self.gives(wanted, "is_right", SHOP, FREE, word, BY_NAME, plan)
            self.gives(False, "is_right", SHOP, (*FREE[:2], ("city",)), word, BY_NAME, plan)

    def test_is_wrong(self):
        plan = ((2,), ("home", ("join", 0, 1)))
        for word in WORDS:
            self.gives(True, "is_wrong", SHOP, THREE, word, BY_ITEM, plan, (TABLES, DEALING))
            self.gives(False, "is_wrong", SHOP, THREE, word, BY_NAME, plan, (TABLES, DEALING))
            self.gives(False, "is_wrong", SHOP, THREE, word, BY_ITEM, plan, (TABLES, (1, ())))
            self.gives(False, "is_wrong", SHOP, THREE, word, BY_ITEM, plan, (EMPTY, DEALING))
        self.gives(True, "is_wrong", SHOP, THREE, "sum", COPIED, plan, (TABLES, (100, ())))
        self.gives(False, "is_wrong", SHOP, THREE, "least", COPIED, plan, (TABLES, (100, ())))

    def test_things_that_are_not_wrong(self):
        plan, pair = ((2,), ("home", ("join", 0, 1))), (TABLES, DEALING)
        things = [*STRANGE, TABLES, [*pair], pair[::-1], (*pair, ()), (TABLES, None), (TABLES, list(DEALING))]
        things += [(list(TABLES), DEALING), (TABLES, (0, ())), (TABLES[:2], DEALING), ((*TABLES[:2], ()), DEALING)]
        things += [(BROKEN, DEALING), (TABLES, (2, DEALING[1][::-1])), ((TABLES[0][::-1], *TABLES[1:]), DEALING)]
        for word in WORDS:
            for thing in things:
                self.gives(False, "is_wrong", SHOP, THREE, word, BY_ITEM, plan, thing)

    def test_right_homes(self):
        sums = [(0,), (0, 1), (0, 1, 2), (0, 2), (1,), (1, 2)]
        for word in ("sum", "number"):
            self.gives(sums, "right_homes", SHOP, THREE, word, BY_NAME)
            self.gives([], "right_homes", SHOP, THREE, word, COPIED)
        for word in ("least", "greatest"):
            self.gives(sorted([*sums, (2,)]), "right_homes", SHOP, THREE, word, COPIED)
            self.gives([(0,), (0, 2), (1,), (1, 2), (2,)], "right_homes", SHOP, THREE, word, BY_ITEM)

    def test_least_plans(self):
        whole = ((0, 1, 2), (("cust", "name"), ("good", "item")), ("city", "kind"))
        for word, question, deal, size in (
            ("sum", THREE, COPIED, (2, 2)), ("least", THREE, COPIED, (2, 1)), ("sum", THREE, BY_ITEM, (2, 2)),
            ("sum", ALONE, COPIED, (1, 1)), ("sum", whole, BY_NAME, (3, 1)), ("sum", whole, BY_ITEM, (3, 2)),
            ("sum", FREE, COPIED, (2, 2)), ("least", FREE, COPIED, (1, 1)),
            ("number", whole, (("oid",), ("name",), ("good",)), (3, 3)),
        ):
            self.gives(size, "least_size", SHOP, question, word, deal)
            plan = function("a_least_plan")(SHOP, question, word, deal)
            self.gives(True, "is_plan", SHOP, question, plan)
            self.gives(True, "is_right", SHOP, question, word, deal, plan)
            self.gives(size, "plan_size", plan)
            self.gives(True, "is_least_plan", SHOP, question, word, deal, plan)

    def test_is_least_plan(self):
        home = ("home", ("join", 0, 1))
        for thing, wanted in (
            (((2,), home), True), (((2,), ("fold", ("home", ("fold", ("join", 1, 0))))), True),
            (((2,), ("join", 0, 1)), False), (((), ("home", FLAT)), False), (PLAIN, False),
            (((2,), ("home", ("join", 0, ("home", 1)))), False),
            ([(2,), home], False), (((2,), list(home)), False), (((1,), ("home", ("join", 0, 2))), False),
        ):
            self.gives(wanted, "is_least_plan", SHOP, THREE, "sum", BY_NAME, thing)
        for thing in STRANGE:
            self.gives(False, "is_least_plan", SHOP, THREE, "sum", BY_NAME, thing)
        # By item this home is not right, and so less than the least size.
        self.gives(False, "is_least_plan", SHOP, THREE, "sum", BY_ITEM, ((2,), home))

    def test_refused(self):
        for word in NOT_WORDS:
            kept = {"word": word}
            self.refuses("NoWord", kept, "plan_answer", SHOP, THREE, word, BY_NAME, DEALING, TABLES, PLAIN)
            for name in ("is_right", "a_wrong"):
                self.refuses("NoWord", kept, name, SHOP, THREE, word, BY_NAME, PLAIN)
            self.refuses("NoWord", kept, "is_wrong", SHOP, THREE, word, BY_NAME, PLAIN, None)
            for name in ("right_homes", "least_size", "a_least_plan"):
                self.refuses("NoWord", kept, name, SHOP, THREE, word, BY_NAME)
            self.refuses("NoWord", kept, "is_least_plan", SHOP, THREE, word, BY_NAME, None)

    def test_each_list_of_homes_is_new(self):
        first = function("right_homes")(SHOP, THREE, "sum", BY_ITEM)
        before = list(first)
        first.append("more")
        self.assertEqual(before, function("right_homes")(SHOP, THREE, "sum", BY_ITEM))


if __name__ == "__main__":
    unittest.main()
