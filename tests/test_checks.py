"""What is enough and fair by the HOUSES alone: edges and wrong inputs. [2] [12]"""

import unittest

from helping import CHAIN, SHOP, STRANGE, Case, function

BY_NAME = (("cust",), ("name",), None)
COPIED = (None, None, None)
CITY_LAND = (("city",), "land")
EMPTY = ((), (), ())
TABLES = (
    (("ann", "tea", "a", 5), ("bob", "tea", "b", 1)),
    (("rome", "it", "ann"), ("york", "uk", "bob")),
    (("tea", "food"),),
)
SPOT = (((), (("rome", "it", "ann"), ("rome", "uk", "bob")), ()), (2, ((("bob",), 1),)))
ONE_SHEET = ((("a", "b"), (((), "b"), (("a",), "b")), ((), ("a",)), ()),)


class Houses(Case):
    def test_houses_keep(self):
        dealing = (2, ((("bob",), 1),))
        self.gives((True, True), "houses_keep", SHOP, TABLES, BY_NAME, dealing)
        self.gives((True, True, True), "houses_keep", SHOP, EMPTY, BY_NAME, (3, ()))
        self.gives((True,), "houses_keep", SHOP, TABLES, COPIED, (1, ()))
        # By city nobody is at home but in HOUSE 0; by a copied order and a dealt buyer neither.
        apart = (2, ((("bob",), 1), (("rome",), 1)))
        self.gives((False, False), "houses_keep", SHOP, TABLES, (("cust",), ("city",), None), apart)
        self.gives((False, False), "houses_keep", SHOP, TABLES, (None, ("name",), None), dealing)
        self.gives((True, False), "houses_keep", SHOP, TABLES, (("cust",), ("name",), ("good",)), dealing)

    def test_tables_that_do_not_keep(self):
        self.gives((False,), "houses_keep", SHOP, SPOT[0], BY_NAME, (1, ()))
        self.gives((False, True), "houses_keep", SHOP, SPOT[0], BY_NAME, (2, ((("eve",), 1),)))
        self.gives((True, True), "houses_keep", SHOP, SPOT[0], BY_NAME, SPOT[1])
        self.gives((False, False), "houses_keep", SHOP, SPOT[0], COPIED, SPOT[1])


class Enough(Case):
    def test_what_copied_sheets_have(self):
        for number, part in ((0, ("oid",)), (1, CITY_LAND), (1, ("name",)), (2, ("good",))):
            self.gives(True, "is_enough", SHOP, COPIED, number, part)
            self.gives(None, "a_blind_spot", SHOP, COPIED, number, part)
            self.gives(False, "is_blind_spot", SHOP, COPIED, number, part, SPOT)
        self.gives([], "blind_rules", SHOP, COPIED)
        self.gives([], "blind_keys", SHOP, COPIED)

    def test_dealt_by_nothing_all_is_in_one_house(self):
        for deal in (((),) * 3, ((), None, ()), (None, (), None)):
            self.gives([], "blind_rules", SHOP, deal)
            self.gives([], "blind_keys", SHOP, deal)

    def test_dealt_by_what_is_the_same(self):
        for deal, rules, keys in (
            ((("oid",), ("city",), ("good",)), [], [(1, ("name",))]),
            ((("oid", "oid"), ("city", "city"), ("good", "good")), [], [(1, ("name",))]),
            ((("cust", "oid"), ("city", "name"), ("kind",)), [(1, CITY_LAND)],
             [(0, ("oid",)), (1, ("name",)), (2, ("good",))]),
            ((("cust",), ("land",), None), [(1, CITY_LAND)], [(0, ("oid",)), (1, ("name",))]),
            ((None, ("name",), None), [(1, CITY_LAND)], []),
        ):
            self.gives(rules, "blind_rules", SHOP, deal)
            self.gives(keys, "blind_keys", SHOP, deal)

    def test_an_empty_few_and_an_empty_key(self):
        for deal, enough in (((None,), True), (((),), True), ((("a",),), False), ((("a", "b"),), False)):
            for part in (((), "b"), ()):
                self.gives(enough, "is_enough", ONE_SHEET, deal, 0, part)
                spot = function("a_blind_spot")(ONE_SHEET, deal, 0, part)
                self.assertIs(enough, spot is None)
                self.gives(not enough, "is_blind_spot", ONE_SHEET, deal, 0, part, spot)
        self.gives(True, "is_enough", ONE_SHEET, (("a",),), 0, (("a",), "b"))
        self.gives(False, "is_enough", ONE_SHEET, (("b",),), 0, (("a",), "b"))
        self.gives(True, "is_enough", ONE_SHEET, (("a",),), 0, ("a",))
        self.gives([(0, ((), "b")), (0, (("a",), "b"))], "blind_rules", ONE_SHEET, (("a", "b"),))
        self.gives([(0, ()), (0, ("a",))], "blind_keys", ONE_SHEET, (("a", "b"),))

    def test_a_copied_row_refers_to_a_row_in_each_house(self):
        # Two ROWS lead to one copied ROW, that leads to one dealt ROW in each of both HOUSES, dealt by its KEY.
        schema = (
            (("a", "b"), ((("a",), "b"),), (), ((1, ("a",), ("c",)), (2, ("a", "b"), ("d", "e")))),
            (("c",), (), (("c",),), ((2, ("c",), ("d",)),)),
            (("d", "e"), (), (("d",), ("d", "e")), ()),
        )
        rule = (("a",), "b")
        for deal, enough in (
            ((("b",), None, ("d",)), True), ((("b",), None, ("e",)), False), ((("b",), None, None), True),
            ((("b",), ("c",), ("e",)), True), ((("b",), ("c",), None), True), ((("b",), (), None), True),
        ):
            self.gives(enough, "is_enough", schema, deal, 0, rule)
            spot = function("a_blind_spot")(schema, deal, 0, rule)
            self.assertIs(enough, spot is None)
            self.gives(not enough, "is_blind_spot", schema, deal, 0, rule, spot)

    def test_is_blind_spot(self):
        tables, dealing = SPOT
        self.gives(True, "is_blind_spot", SHOP, BY_NAME, 1, CITY_LAND, SPOT)
        self.gives(False, "is_blind_spot", SHOP, BY_NAME, 1, ("name",), SPOT)
        self.gives(False, "is_blind_spot", SHOP, BY_NAME, 1, CITY_LAND, (tables, (1, ())))
        self.gives(False, "is_blind_spot", SHOP, BY_NAME, 1, CITY_LAND, (EMPTY, dealing))
        self.gives(False, "is_blind_spot", SHOP, BY_NAME, 1, CITY_LAND, (TABLES, dealing))
        # A ROW in HOUSE 1 that finds no good: this HOUSE does not keep.
        lost = (((("bob", "tea", "a", 1),), *tables[1:]), dealing)
        self.gives(False, "is_blind_spot", SHOP, BY_NAME, 1, CITY_LAND, lost)

    def test_unlike_worths_stand_against_a_key_in_one_house(self):
        # By the DEAL both are in one HOUSE, which does not keep then.
        tables = ((("ann", "tea", "a", 1), ("ann", "tea", "a", 2)), (("rome", "it", "ann"),), (("tea", "food"),))
        self.gives(False, "is_blind_spot", SHOP, BY_NAME, 0, ("oid",), (tables, (2, ((("ann",), 1),))))
        orders = (("ann", "tea", "a", 1), ("bob", "tea", "a", 1))
        other = (orders, (("rome", "it", "ann"), ("rome", "it", "bob")), tables[2])
        self.gives(True, "is_blind_spot", SHOP, BY_NAME, 0, ("oid",), (other, (2, ((("ann",), 1),))))
        self.gives(False, "is_blind_spot", SHOP, BY_NAME, 0, ("oid",), (other, (2, ((("ann",), 1), (("bob",), 1)))))

    def test_things_that_are_no_spots(self):
        tables, dealing = SPOT
        things = [*STRANGE, tables, [*SPOT], SPOT[::-1], (*SPOT, ()), (tables, list(dealing)), (list(tables), dealing)]
        things += [(tables, (0, ())), (tables[:2], dealing), (tables, None), (tables, (2, ((("bob",), True),)))]
        things += [(((), tables[1][::-1], ()), dealing), (((), [*tables[1]], ()), dealing)]
        for thing in things:
            self.gives(False, "is_blind_spot", SHOP, BY_NAME, 1, CITY_LAND, thing)

    def test_refused(self):
        for number, part, wanted, kept in (
            (3, CITY_LAND, "NoSheet", {"number": 3}), (-1, ("name",), "NoSheet", {"number": -1}),
            (10 ** 30, (), "NoSheet", {"number": 10 ** 30}), (0, CITY_LAND, "Unfit", {}), (1, ("oid",), "Unfit", {}),
            (1, ("city",), "Unfit", {}), (1, (), "Unfit", {}), (1, (("land",), "city"), "Unfit", {}),
            (2, ("good", "kind"), "Unfit", {}), (1, ("x", "y"), "Unfit", {}), (1, ((), "land"), "Unfit", {}),
        ):
            for deal in (BY_NAME, COPIED):
                self.refuses(wanted, kept, "is_enough", SHOP, deal, number, part)
                self.refuses(wanted, kept, "a_blind_spot", SHOP, deal, number, part)
                self.refuses(wanted, kept, "is_blind_spot", SHOP, deal, number, part, None)


class Fair(Case):
    def test_fair(self):
        for deal, unfair in (
            (COPIED, []), (BY_NAME, []), (((),) * 3, []), ((None, ("name",), None), [(0, 1)]),
            ((("cust",), None, ("good",)), [(0, 2)]), ((("item",), None, ("good",)), []),
            ((("cust", "cust"), ("name",), None), [(0, 1)]), ((("cust", "cust"), ("name", "name"), None), []),
            ((("item", "cust"), ("name", "name"), ()), [(0, 1), (0, 2)]), (((), None, None), []),
            ((("oid",), (), ()), [(0, 1), (0, 2)]),
        ):
            self.gives(unfair, "unfair_references", SHOP, deal)
            for other in (1, 2):
                fair = (0, other) not in unfair
                self.gives(fair, "is_fair", SHOP, deal, 0, other)
                alarm = function("a_false_alarm")(SHOP, deal, 0, other)
                self.assertIs(fair, alarm is None)
                self.gives(not fair, "is_false_alarm", SHOP, deal, 0, other, alarm)

    def test_references_back_along_further_ones(self):
        # The last SHEET has a KEY (), so each ROW leads to the same one there.
        for deal, unfair in (
            ((None,) * 4, []), ((None, None, None, ("h",)), [(0, 3), (2, 3)]),
            ((("a",), None, ("g",), ("h",)), [(0, 3), (1, 2)]), (((), (), (), ()), []),
            ((("a", "b"), ("e", "d"), None, None), []), ((("a", "b"), ("d", "e"), None, None), [(0, 1)]),
            ((None, ("c",), ("f",), None), [(0, 1)]),
        ):
            self.gives(unfair, "unfair_references", CHAIN, deal)

    def test_is_false_alarm(self):
        deal = (("oid",), ("name",), None)
        self.gives(True, "is_false_alarm", SHOP, deal, 0, 1, (TABLES, (2, ((("a",), 1),))))
        self.gives(False, "is_false_alarm", SHOP, deal, 0, 2, (TABLES, (2, ((("a",), 1),))))
        self.gives(False, "is_false_alarm", SHOP, deal, 0, 1, (TABLES, (2, ((("a",), 1), (("ann",), 1)))))
        self.gives(False, "is_false_alarm", SHOP, deal, 0, 1, (TABLES, (1, ())))
        self.gives(False, "is_false_alarm", SHOP, deal, 0, 1, (EMPTY, (2, ())))
        self.gives(True, "is_false_alarm", SHOP, (None, ("name",), None), 0, 1, (TABLES, (100, ())))
        self.gives(False, "is_false_alarm", SHOP, (None, None, ("good",)), 0, 1, (TABLES, (100, ())))

    def test_things_that_are_no_alarms(self):
        deal, dealing = (("oid",), ("name",), None), (2, ((("a",), 1),))
        pair = (TABLES, dealing)
        things = [*STRANGE, TABLES, [*pair], pair[::-1], (*pair, ()), (TABLES, list(dealing)), (list(TABLES), dealing)]
        things += [(TABLES, (0, ())), (TABLES[:2], dealing), (TABLES, None), ((*TABLES[:2], ()), dealing)]
        things += [((TABLES[0], TABLES[1][:1], TABLES[2]), dealing), ((TABLES[0][::-1], *TABLES[1:]), dealing)]
        for thing in things:
            self.gives(False, "is_false_alarm", SHOP, deal, 0, 1, thing)

    def test_refused(self):
        for number, other, wanted, kept in (
            (3, 4, "NoSheet", {"number": 3}), (0, 4, "NoSheet", {"number": 4}), (-1, 1, "NoSheet", {"number": -1}),
            (0, -2, "NoSheet", {"number": -2}), (7, 1, "NoSheet", {"number": 7}), (1, 2, "Unfit", {}),
            (1, 0, "Unfit", {}), (0, 0, "Unfit", {}), (2, 2, "Unfit", {}),
        ):
            for deal in (BY_NAME, COPIED):
                self.refuses(wanted, kept, "is_fair", SHOP, deal, number, other)
                self.refuses(wanted, kept, "a_false_alarm", SHOP, deal, number, other)
                self.refuses(wanted, kept, "is_false_alarm", SHOP, deal, number, other, None)


class Good(Case):
    def test_good_deals(self):
        # A buyer to whom a copied order refers has to be in all HOUSES.
        for number in (1, 2):
            self.gives([], "good_deals", SHOP, COPIED, number)
        self.gives([(), ("oid",)], "good_deals", SHOP, COPIED, 0)
        self.gives([()], "good_deals", SHOP, (None, (), ()), 0)
        # SHEET 1 has a RULE that needs its city, and a KEY that needs its name.
        self.gives([()], "good_deals", SHOP, ((), None, None), 1)
        self.gives([], "good_deals", SHOP, (("cust",), None, None), 1)

    def test_of_a_sheet_alone(self):
        schema = ((("a", "b", "c"), (), (("a", "b"),), ()),)
        wanted = [(), ("a",), ("a", "b"), ("b",), ("b", "a")]
        for deal in ((None,), ((),), (("c",),)):
            self.gives(wanted, "good_deals", schema, deal, 0)
        free = ((("a", "b"), (), (), ()),)
        self.gives([(), ("a",), ("a", "b"), ("b",), ("b", "a")], "good_deals", free, (None,), 0)

    def test_refused(self):
        for number in (3, -1, 10 ** 30):
            self.refuses("NoSheet", {"number": number}, "good_deals", SHOP, COPIED, number)

    def test_each_list_is_new(self):
        for name, arguments in (
            ("good_deals", (SHOP, COPIED, 0)), ("blind_rules", (SHOP, BY_NAME)), ("blind_keys", (SHOP, BY_NAME)),
            ("unfair_references", (SHOP, (None, (), ()))),
        ):
            first = function(name)(*arguments)
            before = list(first)
            first.append("more")
            self.assertEqual(before, function(name)(*arguments))


if __name__ == "__main__":
    unittest.main()
