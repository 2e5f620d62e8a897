"""HANDS, PICTURES, JOINS and what two MEETINGS have alike: edges and wrong inputs. [2] [6]"""

import unittest

from helping import CHAIN, SHOP, STRANGE, Case, function

CITIES = ((0, 1), (("cust", "name"),), ("city",))
ALL = ((0, 1, 2), (("cust", "name"), ("good", "item")), ("city",))
ORDER = ((0, ("x", "y", "z")),)
STAFF = (("boss", "desk", "ward"), (), (), ((1, ("boss", "ward"), ("hall", "lamp")),))
OFFICE = (STAFF, (("hall", "lamp"), ((("hall",), "lamp"),), (("hall", "lamp"),), ()))
STEPS = ((("a", "b", "c"), ((("a",), "b"), (("b",), "c")), (), ()),)
TO_B, TO_C = (("a",), "b"), (("b",), "c")
ONE_ROW = ((("a", "b"), (), ((),), ()),)


class Hands(Case):
    def test_hands(self):
        self.is_such("is_hand", SHOP, things=(
            (), ORDER, ORDER * 2, ((2, ("tea", "food")), (0, ("a", "a", "a")), (1, ("zzzzzzzz", "b", "c"))),
            ((1, ("a", "b", "c")),) * 100,
        ))

    def test_other_things(self):
        things = [None, [], [ORDER[0]], ORDER[0], (ORDER,), (list(ORDER[0]),), ((0, ["x", "y", "z"]),)]
        things += [((3, ("x",)),), ((-1, ("x", "y")),), ((True, ("a", "b", "c")),), (("0", ("a", "b", "c")),)]
        things += [((0, ("x", "y")),), ((0, ("x", "y", "z", 1)),), ((0, ("x", "y", 1)),), ((0, ("x", "Y", "z")),)]
        things += [((0, ("x", "y", "")),), ((0, ("x", "y", "toolongit")),), ((0, ("x", "y", "z"), 1),), ((0,),)]
        things += [(*ORDER, None), (*ORDER, (2, ("x", None))), ((None, ("x", "y", "z")),), ((0, None),), ((0, "xyz"),)]
        things += [((10 ** 30, ("x", "y", "z")),), (((0,), ("x", "y", "z")),), ((0, (("x",), "y", "z")),)]
        # () is a HAND.
        for thing in (*things, *[thing for thing in STRANGE if thing != () or isinstance(thing, list)]):
            self.gives(False, "is_hand", SHOP, thing)

    def test_hand_of_row(self):
        self.gives(((0, ("a", "b", "c")),), "hand_of_row", SHOP, 0)
        self.gives(((2, ("a", "b")),), "hand_of_row", SHOP, 2)
        for number in (3, -1, 10 ** 30):
            self.refuses("NoSheet", {"number": number}, "hand_of_row", SHOP, number)

    def test_hand_of_meeting(self):
        self.gives(((0, ("a", "b", "c")),), "hand_of_meeting", SHOP, ((0,), (), ()))
        free = ((0, ("a", "b", "c")), (2, ("d", "e")))
        self.gives(free, "hand_of_meeting", SHOP, ((0, 2), (), ("kind",)))
        self.gives(((0, ("a", "b", "c")), (1, ("d", "e", "a"))), "hand_of_meeting", SHOP, CITIES)

    def test_links_join_step_by_step(self):
        # cust, name and good are joined by way of one another; item and land are apart from these.
        links = (("cust", "good"), ("good", "name"), ("item", "land"))
        wanted = ((0, ("a", "b", "c")), (1, ("d", "b", "a")), (2, ("a", "e")))
        self.gives(wanted, "hand_of_meeting", SHOP, ((0, 1, 2), links, ()))
        links = (("city", "cust"), ("city", "item"), ("cust", "land"), ("item", "name"))
        wanted = ((0, ("a", "a", "b")), (1, ("a", "a", "a")))
        self.gives(wanted, "hand_of_meeting", SHOP, ((0, 1), links, ()))

    def test_hand_of_two(self):
        first = ((0, ("a", "b", "c")), (1, ("d", "e", "a")))
        for some, second in (
            ((), ((0, ("f", "g", "h")), (1, ("i", "j", "f")))),
            (("city",), ((0, ("f", "g", "h")), (1, ("d", "i", "f")))),
            (("cust",), ((0, ("a", "f", "g")), (1, ("h", "i", "a")))),
            (("name",), ((0, ("a", "f", "g")), (1, ("h", "i", "a")))),
            (("city", "cust", "item", "land", "oid"), first),
        ):
            self.gives((*first, *second), "hand_of_two", SHOP, CITIES, some)

    def test_names_go_on_behind_z(self):
        # Eight orders have 24 names: the buyer of the first one has y and z, its good has aa.
        hand = tuple((0, tuple(letter + other for other in "abc")) for letter in "abcdefgh")
        tables = function("tables_of")(SHOP, hand)
        self.assertIn(("y", "z", "a"), tables[1])
        self.assertIn(("b", "aa"), tables[2])
        self.assertIn(("v", "w", "x", 7), tables[0])


class Pictures(Case):
    def test_nothing_in_hand(self):
        for schema in (SHOP, CHAIN, OFFICE):
            for name in ("grown", "picture", "places_in", "all_joins"):
                self.gives((), name, schema, ())
            self.gives(((),) * len(schema), "tables_of", schema, ())
            self.gives(True, "are_joins", schema, (), ())
            self.gives(True, "are_all_joins", schema, (), ())
        self.gives([], "ways_in", SHOP, (), ALL)

    def test_one_row_twice_that_a_key_makes_one(self):
        grown = (
            (0, (0, 1, 2)), (0, (0, 1, 2)), (1, (3, 4, 0)), (2, (1, 5)), (1, (6, 7, 0)), (2, (1, 8)),
        )
        self.gives(grown, "grown", SHOP, ORDER * 2)
        self.gives(((0, (0, 1, 2)), (1, (3, 4, 0)), (2, (1, 5))), "picture", SHOP, ORDER * 2)
        self.gives((0, 0), "places_in", SHOP, ORDER * 2)
        self.gives(((("a", "b", "c", 0),), (("d", "e", "a"),), (("b", "f"),)), "tables_of", SHOP, ORDER * 2)

    def test_rows_of_the_first_sheet_with_the_same_are_two_without_a_key(self):
        self.gives(((0, (0, 1, 2)), (0, (0, 1, 2)), (1, (0, 2))), "picture", OFFICE, ORDER * 2)
        self.gives((0, 1), "places_in", OFFICE, ORDER * 2)
        self.gives(((("a", "b", "c", 0), ("a", "b", "c", 1)), (("a", "c"),)), "tables_of", OFFICE, ORDER * 2)

    def test_rows_that_come_to_have_the_same_by_rules(self):
        schema = ((("a", "b"), (((), "a"), ((), "b")), (), ()), (("c", "d"), (((), "c"), ((), "d")), (), ()))
        hand = ((0, ("k", "l")), (0, ("m", "n")), (1, ("o", "p")), (1, ("q", "r")))
        self.gives(((0, (0, 1)), (0, (0, 1)), (1, (2, 3))), "picture", schema, hand)
        self.gives((0, 1, 2, 2), "places_in", schema, hand)

    def test_rows_of_other_sheets_with_the_same_are_one_without_a_key(self):
        schema = ((("a",), (), (), ()), (("b", "c"), (), (), ()))
        hand = ((1, ("x", "y")), (1, ("x", "z")), (1, ("x", "y")))
        self.gives(((1, (0, 1)), (1, (0, 2))), "picture", schema, hand)
        self.gives((0, 1, 0), "places_in", schema, hand)

    def test_an_empty_key(self):
        self.gives(((0, (0, 1)),), "picture", ONE_ROW, ((0, ("x", "y")), (0, ("z", "v"))))
        self.gives(((0, (0, 0)),), "picture", ONE_ROW, ((0, ("x", "y")), (0, ("z", "z"))))

    def test_a_rule_with_an_empty_few(self):
        schema = ((("a", "b"), (((), "a"),), (), ()),)
        self.gives(((0, (0, 1)), (0, (0, 2))), "picture", schema, ((0, ("x", "y")), (0, ("z", "v"))))
        self.gives(((0, (0, 1)), (0, (0, 0))), "picture", schema, ((0, ("x", "y")), (0, ("z", "x"))))

    def test_references_over_two_sheets(self):
        hand = ((0, ("x", "y")),)
        grown = ((0, (0, 1)), (1, (2, 1, 0)), (3, (3,)), (2, (2, 4)), (3, (4,)))
        self.gives(grown, "grown", CHAIN, hand)
        self.gives(((0, (0, 1)), (1, (2, 1, 0)), (3, (3,)), (2, (2, 3))), "picture", CHAIN, hand)
        self.gives(((("a", "b", 0),), (("c", "b", "a"),), (("c", "d"),), (("d",),)), "tables_of", CHAIN, hand)

    def test_names_in_unlike_sheets_are_the_same(self):
        # A buyer in hand has the name that the order has: it is the one to which the order refers.
        hand = ((1, ("c", "l", "n")), (0, ("n", "i", "o")))
        self.gives(((1, (0, 1, 2)), (0, (2, 3, 4)), (2, (3, 5))), "picture", SHOP, hand)
        self.gives((0, 1), "places_in", SHOP, hand)
        self.gives(((1, (0, 1, 2)), (0, (2, 3, 4)), (1, (5, 6, 2)), (2, (3, 7))), "grown", SHOP, hand)

    def test_the_order_of_the_rows(self):
        hand = ((0, ("a", "b", "c")), (2, ("b", "k")), (0, ("d", "b", "e")))
        wanted = (
            (0, (0, 1, 2)), (2, (1, 3)), (0, (4, 1, 5)), (1, (6, 7, 0)), (1, (8, 9, 4)),
        )
        self.gives(wanted, "picture", SHOP, hand)

    def test_ways_in(self):
        hand = ((0, ("a", "b", "c")), (1, ("k", "l", "m")))
        # Places: the order, the buyer in hand, the buyer and the good of the order.
        self.gives([(0, 1), (0, 2)], "ways_in", SHOP, hand, ((0, 1), (), ()))
        self.gives([(0, 2)], "ways_in", SHOP, hand, CITIES)
        self.gives([(0, 2, 3)], "ways_in", SHOP, hand, ALL)
        self.gives([(0,)], "ways_in", SHOP, hand, ((0,), (), ("oid",)))
        self.gives([], "ways_in", SHOP, hand, ((0, 1), (("city", "cust"),), ()))
        self.gives([], "ways_in", SHOP, hand[1:], ((0,), (), ()))

    def test_each_list_of_ways_is_new(self):
        first = function("ways_in")(SHOP, ORDER, ALL)
        first.append("more")
        self.assertEqual([(0, 1, 2)], function("ways_in")(SHOP, ORDER, ALL))


class Joins(Case):
    two = ((0, ("x", "y", "z")), (0, ("x", "u", "v")))

    def test_a_chain_each_of_which_makes_the_next_possible(self):
        self.gives(((0, 1, TO_B), (0, 1, TO_C)), "all_joins", STEPS, self.two)
        self.gives(((0, (0, 1, 2)), (0, (0, 1, 2))), "picture", STEPS, self.two)
        for joins, are, are_all in (
            ((), True, False),
            (((0, 1, TO_B),), True, False),
            (((0, 1, TO_C),), False, False),
            (((0, 1, TO_B), (0, 1, TO_C)), True, True),
            (((0, 1, TO_C), (0, 1, TO_B)), False, False),
            (((0, 1, TO_B), (0, 1, TO_B), (0, 1, TO_C), (0, 1, TO_B)), True, True),
        ):
            self.gives(are, "are_joins", STEPS, self.two, joins)
            self.gives(are_all, "are_all_joins", STEPS, self.two, joins)

    def test_wrong_joins(self):
        one = (0, 1, TO_B)
        things = [one, [one], (list(one),), ((0, 1, ["a", "b"]),), ((0, 1, (["a"], "b")),), ((1, 0, TO_B),)]
        things += [((0, 0, TO_B),), ((0, 2, TO_B),), ((-1, 1, TO_B),), ((False, True, TO_B),), ((0, True, TO_B),)]
        things += [((0, 1, (("a",), "c")),), ((0, 1, ("a",)),), ((0, 1, ()),), ((0, 1),), ((0, 1, TO_B, TO_C),)]
        things += [((0, 1, None),), (("0", 1, TO_B),), ((0, 1, "ab"),), (None,), ((0, 10 ** 30, TO_B),)]
        for thing in (*things, *[thing for thing in STRANGE if thing != () or isinstance(thing, list)]):
            self.gives(False, "are_joins", STEPS, self.two, thing)
            self.gives(False, "are_all_joins", STEPS, self.two, thing)
            if isinstance(thing, tuple):
                self.gives(False, "are_joins", STEPS, self.two, (one, *thing, one, 1))

    def test_joins_of_keys(self):
        oid = ("oid",)
        # Places: two orders, buyer and good of the one, buyer and good of the other.
        joins = ((0, 1, oid), (2, 4, ("name",)), (3, 5, ("good",)))
        self.gives(True, "are_all_joins", SHOP, ORDER * 2, joins)
        self.gives(True, "are_all_joins", SHOP, ORDER * 2, joins[::-1])
        for many in range(3):
            self.gives(True, "are_joins", SHOP, ORDER * 2, joins[:many])
            self.gives(False, "are_all_joins", SHOP, ORDER * 2, joins[:many])
        # These two orders have the same in all COLUMNS, but are one ROW only by the KEY.
        self.gives(False, "are_all_joins", SHOP, ORDER * 2, joins[1:])
        self.gives(False, "are_joins", SHOP, ORDER * 2, ((0, 2, oid),))
        self.gives(False, "are_joins", SHOP, ORDER * 2, ((2, 3, ("name",)),))
        self.gives(False, "are_joins", SHOP, ORDER * 2, ((2, 4, (("city",), "land")),))
        ruled = ((2, 4, ("name",)), (2, 4, (("city",), "land")))
        self.gives(True, "are_joins", SHOP, ORDER * 2, ruled)

    def test_rows_of_other_sheets_with_the_same_need_no_join(self):
        hand = ((1, ("x", "y", "z")),) * 2
        self.gives((), "all_joins", SHOP, hand)
        self.gives(True, "are_all_joins", SHOP, hand, ())
        self.gives(True, "are_all_joins", SHOP, hand, ((0, 1, ("name",)),))

    def test_one_row_by_way_of_another(self):
        schema = ((("a",), (), (("a",),), ()),)
        hand = ((0, ("x",)),) * 3
        key = ("a",)
        self.gives(True, "are_all_joins", schema, hand, ((0, 1, key), (1, 2, key)))
        self.gives(True, "are_all_joins", schema, hand, ((0, 2, key), (1, 2, key)))
        self.gives(False, "are_all_joins", schema, hand, ((0, 1, key), (0, 1, key)))

    def test_an_empty_key_joins_all(self):
        hand = ((0, ("x", "y")), (0, ("z", "v")))
        self.gives(True, "are_all_joins", ONE_ROW, hand, ((0, 1, ()),))
        self.gives(False, "are_all_joins", ONE_ROW, hand, ())


class Meetings(Case):
    def test_equal(self):
        self.gives(True, "is_equal", SHOP, CITIES, "cust", "name")
        self.gives(True, "is_equal", SHOP, CITIES, "name", "cust")
        self.gives(False, "is_equal", SHOP, CITIES, "city", "name")
        self.gives(True, "is_equal", SHOP, CITIES, "item", "item")
        self.gives((("cust", "name"),), "equal_columns", SHOP, CITIES)
        self.gives((), "equal_columns", SHOP, ((0, 1, 2), (), ()))
        self.gives((), "equal_columns", SHOP, ((0,), (), ()))

    def test_equal_by_references(self):
        # The buyer in the MEETING is that of the order, and its land is that of the good's buyer, too.
        schema = (
            (("a",), (), (), ((1, ("a",), ("b",)), (2, ("a",), ("d",)))),
            (("b", "c"), (), (("b",),), ((2, ("b", "c"), ("d", "e")),)),
            (("d", "e"), ((("d",), "e"),), (("d",), ("d", "e")), ()),
        )
        question = ((0, 1, 2), (("a", "b"), ("a", "d")), ())
        self.gives((("a", "b", "d"), ("c", "e")), "equal_columns", schema, question)
        self.gives(True, "is_equal", schema, question, "c", "e")
        self.gives(False, "is_equal", schema, ((0, 1, 2), (("a", "b"),), ()), "c", "e")

    def test_settled(self):
        for some, columns, numbers in (
            ((), (), ()),
            (("city",), ("city", "land"), ()),
            (("cust",), ("city", "cust", "land", "name"), (1,)),
            (("name",), ("city", "cust", "land", "name"), (1,)),
            (("oid",), ("city", "cust", "item", "land", "name", "oid"), (0, 1)),
            (("item", "land"), ("item", "land"), ()),
        ):
            self.gives(columns, "settled", SHOP, CITIES, some)
            self.gives(numbers, "settled_rows", SHOP, CITIES, some)

    def test_rows_without_a_key_are_not_settled(self):
        question = ((0, 1), (("boss", "hall"), ("lamp", "ward")), ())
        some = ("boss", "desk", "ward")
        self.gives(("boss", "desk", "hall", "lamp", "ward"), "settled", OFFICE, question, some)
        self.gives((1,), "settled_rows", OFFICE, question, some)

    def test_settled_by_an_empty_key(self):
        self.gives(("a", "b"), "settled", ONE_ROW, ((0,), (), ()), ())
        self.gives((0,), "settled_rows", ONE_ROW, ((0,), (), ()), ())

    def test_apart(self):
        tables = (
            (("a", "b", "c", 0), ("a", "f", "g", 2)), (("d", "e", "a"),), (("b", "h"), ("f", "i")),
        )
        self.gives((tables, (0, 0), (1, 0)), "apart", SHOP, CITIES, ("cust",))
        tables = ((("a", "b", "c", 0),), (("d", "e", "a"),), (("b", "f"),))
        self.gives((tables, (0, 0), (0, 0)), "apart", SHOP, CITIES, ("oid",))
        tables = ((("a", "b", 0),),)
        self.gives((tables, (0,), (0,)), "apart", ONE_ROW, ((0,), (), ()), ())

    def test_refused(self):
        for name in ("hand_of_two", "settled", "settled_rows", "apart"):
            self.refuses("NoColumn", {"name": "x"}, name, SHOP, CITIES, ("city", "good", "x", "y"))
            self.refuses("NoColumn", {"name": ""}, name, SHOP, CITIES, ("", "x"))
            self.refuses("Unfit", {}, name, SHOP, CITIES, ("city", "good"))
            self.refuses("Unfit", {}, name, SHOP, ((0,), (), ()), ("name",))
        self.refuses("NoColumn", {"name": "x"}, "is_equal", SHOP, CITIES, "x", "good")
        self.refuses("NoColumn", {"name": "x"}, "is_equal", SHOP, CITIES, "good", "x")
        self.refuses("NoColumn", {"name": "y"}, "is_equal", SHOP, CITIES, "y", "x")
        self.refuses("Unfit", {}, "is_equal", SHOP, CITIES, "good", "cust")
        self.refuses("Unfit", {}, "is_equal", SHOP, CITIES, "cust", "kind")


if __name__ == "__main__":
    unittest.main()
