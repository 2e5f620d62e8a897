"""PROMISES, PAPERS and PIECES: edges and wrong inputs. [2] [16]"""

import unittest

from helping import CHAIN, SHOP, STRANGE, WORDS, Case, function

CITIES = ((0, 1), (("cust", "name"),), ("city",))
ASKED = ((0, 1), (("cust", "name"),), ())
FREE = ((0, 1), (), ())
ALL = ((0, 1, 2), (("cust", "name"), ("good", "item")), ("kind",))
COPIED = (None, None, None)
BY_NAME = (("cust",), ("name",), None)
PLAN = ((), ("home", ("join", 0, 1)))
CITY_LAND = (("city",), "land")
EMPTY = ((), (), ())
TABLES = ((("ann", "tea", "a", 5),), (("rome", "it", "ann"), ("rome", "it", "bob")), (("tea", "food"),))

# PROMISES of the shop, each with whether it holds.
PROMISES = (
    (("rule", CITY_LAND), True), (("rule", (("name",), "land")), True), (("rule", (("land",), "city")), False),
    (("rule", ((), "kind")), False), (("rule", (("cust", "item"), "item")), True), (("rule", (("oid",), "cust")), True),
    (("key", 1, ("name",)), True), (("key", 1, ("city", "name")), True), (("key", 1, ("city", "land")), False),
    (("key", 0, ("cust", "item")), False), (("key", 2, ()), False), (("key", 2, ("good", "kind")), True),
    (("equal", CITIES, "cust", "name"), True), (("equal", CITIES, "city", "city"), True),
    (("equal", FREE, "cust", "name"), False),
    (("settles", CITIES, ("cust",), "land"), True), (("settles", CITIES, ("cust",), 1), True),
    (("settles", CITIES, (), 1), False),
    (("settles", CITIES, ("city",), "oid"), False), (("settles", CITIES, ("city", "oid"), 0), True),
    (("least", ASKED, (0,)), True), (("least", ASKED, (1,)), False), (("least", FREE, ()), False),
    (("most", ASKED, (0,)), True),
    (("most", ASKED, ()), False), (("most", FREE, (0, 1)), True),
    (("same", ASKED, ((0,), (), ()), "sum"), True), (("same", FREE, ((0,), (), ()), "sum"), False),
    (("same", FREE, ((0,), (), ()), "least"), True), (("out", ASKED, (1,), "number"), True),
    (("out", FREE, (1,), "number"), False),
    (("out", CITIES, (), "sum"), True), (("out", ALL, (1,), "greatest"), True),
    (("unfelt", ASKED, ("city", "kind"), "sum"), True), (("unfelt", CITIES, ("city",), "least"), False),
    (("unfelt", CITIES, (), "sum"), True), (("unfelt", ASKED, ("cust", "name"), "sum"), True),
    (("plan", CITIES, "sum", BY_NAME, PLAN), True), (("plan", CITIES, "sum", COPIED, PLAN), False),
    (("plan", ALL, "number", COPIED, ((1,), ("fold", ("join", 0, 2)))), True),
    (("told", CITIES, "sum", BY_NAME), True), (("told", CITIES, "sum", COPIED), False),
    (("told", CITIES, "least", COPIED), True),
    (("groups", CITIES, BY_NAME), False), (("groups", ((0,), (), ("cust",)), BY_NAME), True),
    (("groups", CITIES, COPIED), True),
    (("enough", BY_NAME, 1, CITY_LAND), False), (("enough", BY_NAME, 1, ("name",)), True),
    (("enough", COPIED, 0, ("oid",)), True),
    (("fair", BY_NAME, 0, 1), True), (("fair", (None, (), None), 0, 1), False), (("fair", BY_NAME, 0, 2), True),
    (("calm", BY_NAME, ("put", 0), ("take", 1)), True), (("calm", BY_NAME, ("take", 2), ("put", 0)), False),
    (("calm", COPIED, ("put", 1), ("put", 1)), False),
)


def with_a_list(value):
    """Yield value with a list in the place of each one of its tuples."""
    if isinstance(value, tuple):
        yield list(value)
        for at, part in enumerate(value):
            for other in with_a_list(part):
                yield (*value[:at], other, *value[at + 1:])


class Promises(Case):
    def test_promises(self):
        self.is_such("is_promise", SHOP, things=[promise for promise, _ in PROMISES])
        self.assertEqual(15, len({promise[0] for promise, _ in PROMISES}))

    def test_lists_are_no_tuples(self):
        for promise, _ in PROMISES:
            for thing in with_a_list(promise):
                self.gives(False, "is_promise", SHOP, thing)

    def test_members_too_few_and_too_many(self):
        for promise, _ in PROMISES:
            for thing in (promise[:-1], (*promise, ()), (*promise, None), promise[:1], promise[1:], (promise,)):
                self.gives(False, "is_promise", SHOP, thing)

    def test_a_member_of_another_kind(self):
        for promise, _ in PROMISES:
            for at in range(len(promise)):
                for part in (None, True, False, -1, 3, 10 ** 30, "x", "", "Sum", [], ("x",), ("city", "city"), (9,),
                    (True,), CHAIN):
                    self.gives(False, "is_promise", SHOP, (*promise[:at], part, *promise[at + 1:]))

    def test_what_the_functions_would_refuse(self):
        self.is_not_such("is_promise", SHOP, things=(
            ("rule", (("oid",), "city")), ("rule", (("city", "oid"), "land")), ("rule", (("name", "city"), "land")),
            ("rule", (("city",), ("land",))), ("rule", ("city", "land")), ("rule", ("city",)),
            ("rule", CITY_LAND[::-1]),
            ("key", 0, ("name",)), ("key", 1, ("name", "city")), ("key", 1, "name"), ("key", "1", ("name",)),
            ("key", 1, (1,)),
            ("equal", CITIES, "cust", "kind"), ("equal", CITIES, "kind", "cust"), ("equal", CITIES, ("cust",), "name"),
            ("equal", CITIES, 0, 1), ("equal", ((1,), (), ()), "city", "name"), ("equal", CITIES, "cust", "nobody"),
            ("settles", CITIES, ("kind",), "oid"), ("settles", CITIES, ("oid", "cust"), "oid"),
            ("settles", CITIES, (), "kind"),
            ("settles", CITIES, (), 2), ("settles", CITIES, (), ()), ("settles", CITIES, (0,), 0),
            ("settles", CITIES, "oid", 0),
            ("least", ASKED, (2,)), ("most", ASKED, (0, 0)), ("least", ASKED, (1, 0)), ("most", ASKED, 0),
            ("least", ASKED, ("0",)),
            ("most", ASKED, (0, 3)), ("least", ASKED, (False,)), ("most", ASKED, ("cust",)),
            ("same", ASKED, ((1,), (), ()), "sum"), ("same", ASKED, ASKED, "put"), ("same", ASKED, (1,), "sum"),
            ("out", CITIES, (1,), "sum"), ("out", ASKED, (0,), "sum"), ("out", ASKED, (2,), "sum"),
            ("out", ASKED, (1,), "most"),
            ("out", ALL, (2, 1), "sum"), ("unfelt", ASKED, ("x",), "sum"), ("unfelt", ASKED, ("city", "city"), "sum"),
            ("unfelt", ASKED, "city", "sum"), ("unfelt", ASKED, (1,), "sum"), ("unfelt", ASKED, ("city",), ("sum",)),
            ("plan", CITIES, "sum", BY_NAME, ((1,), 0)), ("plan", CITIES, "sum", BY_NAME, ((), 0)),
            ("plan", CITIES, "sum", BY_NAME[:2], PLAN), ("plan", CITIES, "add", BY_NAME, PLAN),
            ("plan", CITIES, BY_NAME, "sum", PLAN),
            ("plan", CITIES, "sum", BY_NAME, ((), ("home", ("home", ("join", 0, 1))))),
            ("told", CITIES, BY_NAME, "sum"), ("told", CITIES, "sum", (("name",), ("cust",), None)),
            ("told", CITIES, "sum"),
            ("groups", BY_NAME, CITIES), ("groups", CITIES, (None, None)), ("groups", CITIES, "sum", BY_NAME),
            ("enough", BY_NAME, 1, ("city",)), ("enough", BY_NAME, 0, ("name",)),
            ("enough", BY_NAME, 1, (("land",), "city")),
            ("enough", BY_NAME, True, ("name",)), ("enough", 1, BY_NAME, ("name",)), ("enough", BY_NAME, 1, ()),
            ("fair", BY_NAME, 1, 2), ("fair", BY_NAME, 1, 0), ("fair", BY_NAME, 0, 0), ("fair", BY_NAME, False, True),
            ("fair", BY_NAME, 0, True), ("fair", BY_NAME, 0, 3), ("fair", BY_NAME, -3, 1),
            ("calm", BY_NAME, ("put", 3), ("put", 0)), ("calm", BY_NAME, ("put", 0), ("puts", 0)),
            ("calm", BY_NAME, "put", 0),
            ("calm", BY_NAME, ("put", True), ("put", 0)), ("calm", BY_NAME, ("put", 0, ()), ("put", 0)),
            ("calm", ("put", 0), ("put", 0)),
            ("calm", BY_NAME, (0, "put"), ("put", 0)), ("calm", BY_NAME, (["put"], 0), ("put", 0)),
            (), ("rule",), ("Rule", CITY_LAND), (["rule"], CITY_LAND), (("rule",), CITY_LAND), (None, CITY_LAND),
            "rule",
            ("rules", CITY_LAND), ("word", CITIES, "sum"), (CITY_LAND,), (CITY_LAND, "rule"),
        ))

    def test_a_key_of_few_and_an_empty_one(self):
        self.is_such("is_promise", CHAIN, things=(
            ("enough", (None,) * 4, 3, ()), ("key", 3, ()), ("rule", ((), "a")), ("enough", ((),) * 4, 1, ((), "c")),
            ("fair", ((),) * 4, 0, 3),
        ))
        self.gives(True, "holds", CHAIN, ("key", 3, ()))
        self.gives(True, "holds", CHAIN, ("rule", ((), "h")))


class Holding(Case):
    def test_holds(self):
        for promise, wanted in PROMISES:
            self.gives(wanted, "holds", SHOP, promise)
            paper = function("a_paper")(SHOP, promise)
            self.assertIs(wanted, paper is None, promise)
            self.gives(not wanted, "is_paper", SHOP, promise, paper)

    def test_papers_in_their_form(self):
        for promise, wanted in PROMISES:
            paper = function("a_paper")(SHOP, promise)
            if not wanted:
                self.gives(paper, "a_paper", SHOP, promise)
                for thing in with_a_list(paper):
                    self.gives(False, "is_paper", SHOP, promise, thing)
                things = (paper[:-1], (*paper, ()), (paper,), (*paper[:-1], None), (None, *paper[1:]))
                for thing in things:
                    self.gives(False, "is_paper", SHOP, promise, thing)

    def test_strange_things(self):
        for promise, _ in PROMISES:
            for thing in STRANGE:
                if thing is not None or function("holds")(SHOP, promise):
                    self.gives(False, "is_paper", SHOP, promise, thing)

    def test_tables_as_papers(self):
        for promise, wanted in (
            (("rule", (("land",), "name")), True), (("rule", (("name",), "land")), False),
            (("key", 1, ("city", "land")), True),
            (("key", 1, ("city", "name")), False), (("least", ASKED, (1,)), True), (("most", ASKED, ()), False),
            (("same", FREE, ((0,), (), ()), "sum"), True), (("same", FREE, ((0,), (), ()), "greatest"), False),
            (("out", FREE, (1,), "number"), True), (("out", ASKED, (1,), "number"), False), (("key", 2, ()), False),
        ):
            self.gives(wanted, "is_paper", SHOP, promise, TABLES)
            self.gives(False, "is_paper", SHOP, promise, EMPTY)
            self.gives(False, "is_paper", SHOP, promise, (TABLES,))
        # TABLES that do not keep are none.
        lost = (TABLES[0], (("rome", "it", "bob"), ("rome", "uk", "eve")), TABLES[2])
        for promise in (("rule", CITY_LAND), ("rule", (("land",), "name")), ("key", 1, ("city",)),
            ("least", ASKED, (0,))):
            self.gives(False, "is_paper", SHOP, promise, lost)

    def test_worths_alone_stand_against_keys(self):
        schema = ((("a",), (), (), ()),)
        tables = ((("x", 1), ("x", 2)),)
        self.gives(True, "is_paper", schema, ("key", 0, ("a",)), tables)
        self.gives(False, "holds", schema, ("key", 0, ("a",)))
        self.gives(True, "holds", schema, ("rule", (("a",), "a")))
        self.gives(False, "is_paper", schema, ("rule", ((), "a")), tables)
        # In other SHEETS two ROWS with the same in all COLUMNS are one.
        self.gives(True, "holds", (*schema, (("b",), (), (), ())), ("key", 1, ("b",)))

    def test_meetings_as_papers(self):
        tables = ((("ann", "tea", "a", 5), ("bob", "tea", "b", 5)), TABLES[1], TABLES[2])
        promise = ("equal", FREE, "cust", "name")
        for meeting, wanted in (((0, 0), False), ((0, 1), True), ((1, 0), True), ((1, 1), False)):
            self.gives(wanted, "is_paper", SHOP, promise, (tables, meeting))
            self.gives(False, "is_paper", SHOP, ("equal", CITIES, "cust", "name"), (tables, meeting))
        for meeting in ((0, 2), (-2, 1), (0, True), (False, 1), (0,), (0, 1, 0), [0, 1], None, (0, None), ("0", 1),
            ((0,), 1)):
            self.gives(False, "is_paper", SHOP, promise, (tables, meeting))
            self.gives(False, "is_paper", SHOP, ("settles", FREE, (), 1), (tables, (0, 0), meeting))
        for what, one, other, wanted in (
            (0, (0, 0), (1, 0), True), (0, (0, 0), (0, 1), False), (1, (0, 0), (0, 1), True),
            ("cust", (0, 0), (1, 1), True),
            ("city", (0, 0), (1, 1), False), ("oid", (1, 0), (1, 1), False), (1, (0, 0), (0, 0), False),
        ):
            self.gives(wanted, "is_paper", SHOP, ("settles", FREE, (), what), (tables, one, other))
            self.gives(wanted, "is_paper", SHOP, ("settles", FREE, ("land",), what), (tables, other, one))
            self.gives(False, "is_paper", SHOP, ("settles", FREE, ("cust", "name"), what), (tables, one, other))
        # A LINK that does not hold: this is no MEETING.
        self.gives(False, "is_paper", SHOP, ("settles", CITIES, (), 1), (tables, (0, 0), (0, 1)))
        self.gives(True, "is_paper", SHOP, ("settles", CITIES, (), 1), (tables, (0, 0), (1, 1)))

    def test_refused(self):
        for promise in (
            (), ("rule",), ("rule", (("oid",), "city")), ("key", 7, ()), ("least", ASKED, (2,)),
            ("out", CITIES, (1,), "sum"),
            ("told", CITIES, "most", BY_NAME), ("enough", BY_NAME, 1, ("city",)), ("fair", BY_NAME, 1, 2),
            ("calm", BY_NAME, ("put", 3), ("put", 0)), ("settles", CITIES, ("x",), 1), ("put", 0),
            (("rule", CITY_LAND),),
        ):
            for name in ("holds", "a_paper", "stands_on", "fewest_pieces"):
                self.refuses("Unfit", {}, name, SHOP, promise)
            self.refuses("Unfit", {}, "is_paper", SHOP, promise, None)
            self.refuses("Unfit", {}, "is_paper", SHOP, promise, TABLES)


ALL_PIECES = (
    ("key", (0, ("oid",))), ("key", (1, ("name",))), ("key", (2, ("good",))), ("reference", (0, 1)),
    ("reference", (0, 2)),
    ("rule", CITY_LAND),
)


class Pieces(Case):
    def test_pieces(self):
        self.gives(ALL_PIECES, "pieces", SHOP)
        self.gives((), "pieces", ((("a",), (), (), ()),))
        wanted = (
            ("key", (1, ("c",))), ("key", (1, ("d", "e"))), ("key", (2, ("f",))), ("key", (2, ("g",))),
            ("key", (3, ())),
            ("key", (3, ("h",))), ("reference", (0, 1)), ("reference", (0, 3)), ("reference", (1, 2)),
            ("reference", (2, 3)),
            ("rule", ((), "c")), ("rule", (("a",), "a")), ("rule", (("a",), "b")),
        )
        self.gives(wanted, "pieces", CHAIN)

    def test_without(self):
        orders, buyers, goods = SHOP
        for piece, wanted in (
            (("key", (0, ("oid",))), ((*orders[:2], (), orders[3]), buyers, goods)),
            (("reference", (0, 1)), ((*orders[:3], orders[3][1:]), buyers, goods)),
            (("reference", (0, 2)), ((*orders[:3], orders[3][:1]), buyers, goods)),
            (("rule", CITY_LAND), (orders, (buyers[0], (), *buyers[2:]), goods)),
        ):
            self.gives(wanted, "without_piece", SHOP, piece)
        # A KEY that a REFERENCE has held goes once it is gone.
        left = function("without_piece")(SHOP, ("reference", (0, 2)))
        self.gives((), "pieces", function("without_piece")((left[2],), ("key", (0, ("good",)))))

    def test_refused(self):
        for piece in (
            ("key", (1, ("name",))), ("key", (2, ("good",))), ("key", (0, ("cust",))), ("key", (7, ())),
            ("reference", (1, 2)),
            ("reference", (0, 0)), ("rule", (("land",), "city")), ("rule", ("city", "land")), ("put", (0, 1)), (),
            ("key",),
            ("rule", CITY_LAND, ()), ("Rule", CITY_LAND), ("key", (-2, ("name",))),
        ):
            self.refuses("Unfit", {}, "without_piece", SHOP, piece)
            self.refuses("Unfit", {}, "what_falls", SHOP, piece, ())
            self.refuses("Unfit", {}, "what_falls", SHOP, piece, (("rule", CITY_LAND),))

    def test_what_falls(self):
        promises = tuple(promise for promise, _ in PROMISES)
        for piece in ALL_PIECES:
            if piece[0] != "key" or piece[1][0] == 0:
                left = function("without_piece")(SHOP, piece)
                wanted = tuple(
                    at for at, (promise, held) in enumerate(PROMISES)
                    if held and function("is_promise")(left, promise) and not function("holds")(left, promise)
                )
                self.gives(wanted, "what_falls", SHOP, piece, promises)
                self.gives((), "what_falls", SHOP, piece, ())

    def test_what_is_no_promise_any_more_does_not_fall(self):
        promises = (("fair", BY_NAME, 0, 1), ("enough", BY_NAME, 0, ("oid",)), ("enough", COPIED, 0, ("oid",)))
        self.gives((), "what_falls", SHOP, ("reference", (0, 1)), promises)
        self.gives((), "what_falls", SHOP, ("key", (0, ("oid",))), promises)

    def test_one_promise_twice(self):
        promise = ("least", ASKED, (0,))
        self.gives((0, 2), "what_falls", SHOP, ("reference", (0, 1)), (promise, ("rule", CITY_LAND), promise))

    def test_stands_on(self):
        lead, name = ("reference", (0, 1)), ("key", (1, ("name",)))
        for promise, wanted in (
            (("least", ASKED, (0,)), (lead,)), (("most", ASKED, (0,)), ()),
            (("rule", CITY_LAND), (("rule", CITY_LAND),)),
            (("rule", (("land",), "land")), ()), (("key", 0, ("oid",)), (("key", (0, ("oid",))),)),
            (("out", ASKED, (1,), "sum"), (lead,)),
            (("fair", BY_NAME, 0, 1), ()), (("calm", BY_NAME, ("put", 0), ("take", 1)), ()),
        ):
            self.gives(wanted, "stands_on", SHOP, promise)
        left = function("without_piece")(SHOP, lead)
        self.gives((name,), "stands_on", left, ("most", ASKED, (0,)))

    def test_fewest_pieces(self):
        lead, name = ("reference", (0, 1)), ("key", (1, ("name",)))
        for promise, wanted in (
            (("least", ASKED, (0,)), (name, lead)), (("most", ASKED, (0,)), (name,)),
            (("rule", CITY_LAND), (("rule", CITY_LAND),)),
            (("rule", (("land",), "land")), ()), (("fair", BY_NAME, 0, 1), (name, lead)),
            (("enough", COPIED, 0, ("oid",)), (("key", (0, ("oid",))),)),
            (("calm", COPIED, ("take", 0), ("take", 1)), ()),
            (("told", CITIES, "sum", BY_NAME), ()), (("key", 1, ("city", "name")), (name,)),
        ):
            self.gives(wanted, "fewest_pieces", SHOP, promise)

    def test_two_sets_of_fewest(self):
        schema = ((("a", "b", "c"), ((("a",), "c"), (("b",), "c")), (("a",), ("b",)), ()),)
        self.gives((("key", (0, ("a",))),), "fewest_pieces", schema, ("rule", (("a", "b"), "c")))
        self.gives((), "stands_on", schema, ("rule", (("a", "b"), "c")))
        self.gives((("rule", (("a",), "c")),), "fewest_pieces", (
            (("a", "b", "c"), ((("a",), "c"), (("b",), "c")), (), ()),), ("rule", (("a", "b"), "c")))

    def test_can_not(self):
        for promise, held in PROMISES:
            if not held:
                self.refuses("CanNot", {}, "stands_on", SHOP, promise)
                self.refuses("CanNot", {}, "fewest_pieces", SHOP, promise)

    def test_words(self):
        for word in WORDS:
            self.gives(True, "is_promise", SHOP, ("told", CITIES, word, BY_NAME))


if __name__ == "__main__":
    unittest.main()
