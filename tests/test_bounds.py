"""At the bounds of the document the answers come without a long wait. [3] [6] to [15]"""

import time
import unittest

from helping import WORDS, Case, function

COLUMNS = (("a", "b", "c"), ("d", "e", "f"), ("g", "h", "i"), ("j", "k", "l"))
# A wait that is long: far more than any of these calls needs.
SECONDS = 20


def references(number, width):
    """Return REFERENCES to all SHEETS behind this one, by KEYS of so many COLUMNS."""
    mine = COLUMNS[number]
    return tuple(
        (other, tuple(mine[(other + at) % 3] for at in range(width)), COLUMNS[other][:width])
        for other in range(number + 1, 4)
    )


def full_schema(width):
    """Return a SCHEMA of 4 SHEETS with 3 COLUMNS, 3 RULES and 2 KEYS each."""
    sheets = []
    for number, columns in enumerate(COLUMNS):
        one, two, three = columns
        rules = (((one,), two), ((one, two), three), ((two,), three))
        sheets.append((columns, rules, (columns[:width], (two, three)), references(number, width)))
    return tuple(sheets)


def loose_schema():
    """Return a SCHEMA in which little becomes alike, so that much grows."""
    sheets = []
    for number, columns in enumerate(COLUMNS):
        sheets.append((columns, (), () if number == 0 else (columns[:1],), references(number, 1)))
    return tuple(sheets)


SCHEMAS = (full_schema(1), full_schema(2), loose_schema())
QUESTIONS = (
    ((0, 1, 2, 3), (), ()),
    ((0, 1, 2, 3), (), ("c",)),
    ((0, 1, 2, 3), (("a", "e"), ("b", "g"), ("f", "j"), ("h", "l")), ("c", "d")),
)
HAND = tuple((0, tuple(letter + other for other in "xyz")) for letter in "abcdefgh")
DEALS = (
    (("a",), ("d",), ("g",), ("j",)), (("a", "b", "c"), None, ("g", "h"), None), (("c",), None, None, ("l",)),
    (None,) * 4,
)


class Bounds(Case):
    def each(self):
        for schema in SCHEMAS:
            self.assertTrue(function("is_schema")(schema))
            for question in QUESTIONS:
                self.assertTrue(function("is_question")(schema, question))
                yield schema, question

    def call(self, name, *arguments):
        start = time.monotonic()
        told = function(name)(*arguments)
        self.assertLess(time.monotonic() - start, SECONDS, name)
        return told

    def test_unfoldings(self):
        for schema, question in self.each():
            grown = self.call("grown", schema, HAND)
            self.assertEqual(8 * 8, len(grown))
            for name in ("picture", "places_in", "tables_of"):
                self.call(name, schema, HAND)
            joins = self.call("all_joins", schema, HAND)
            self.assertTrue(self.call("are_all_joins", schema, HAND, joins))
            self.call("ways_in", schema, HAND, question)
            hand = function("hand_of_two")(schema, question, ("a", "e"))
            self.assertEqual(8, len(hand))
            self.call("ways_in", schema, hand, question)
            for name in ("settled", "settled_rows", "apart"):
                self.call(name, schema, question, ("a", "e"))
            self.call("equal_columns", schema, question)

    def test_fans(self):
        for schema, question in self.each():
            self.call("fans", schema, question)
            self.call("fewest_telling", schema, question)
            self.call("alike_columns", schema, question)
            for end in ("least", "most"):
                paper = self.call("fan_paper", schema, question, (1, 3), end)
                self.assertIs(paper is not None, self.call("is_fan_paper", schema, question, (1, 3), end, paper))

    def test_questions(self):
        for schema, question in self.each():
            for word in WORDS:
                self.call("sets_to_leave_out", schema, question, word)
                self.call("least_question", schema, question, word)
                for other in QUESTIONS:
                    paper = self.call("parting_tables", schema, question, other, word)
                    self.assertIs(paper is not None, self.call("is_parting", schema, question, other, word, paper))
            self.call("needless_links", schema, question)

    def test_felt(self):
        columns = tuple("abcdefghijkl")
        for schema, question in self.each():
            for word in WORDS:
                self.call("felt_columns", schema, question, word)
                for some in (columns, columns[1:], ("b", "e", "h", "k")):
                    pair = self.call("parting_pair", schema, question, some, word)
                    told = self.call("is_parting_pair", schema, question, some, word, pair)
                    self.assertIs(pair is not None, told)
            self.call("fixed_columns", schema, columns)
        narrow = []
        for at, names in enumerate(COLUMNS):
            further = tuple((other, names[:1], COLUMNS[other][:1]) for other in range(at + 1, 4))
            narrow.append((names[:2], (), (names[:1],), further))
        narrow = tuple(narrow)
        self.assertTrue(function("is_schema")(narrow))
        for word in WORDS:
            self.call("felt_pairs", narrow, ((0, 1, 2, 3), (), ("h",)), word)

    def test_homes_and_plans(self):
        plan = ((), ("join", ("home", ("join", 0, 1)), ("home", ("fold", ("join", 2, 3)))))
        for schema, question in self.each():
            for word in WORDS:
                self.call("deals_at_home", schema, question, word)
                for deal in DEALS:
                    self.call("right_homes", schema, question, word, deal)
                    least = self.call("a_least_plan", schema, question, word, deal)
                    self.assertTrue(self.call("is_least_plan", schema, question, word, deal, least))
                    paper = self.call("a_wrong", schema, question, word, deal, plan)
                    told = self.call("is_wrong", schema, question, word, deal, plan, paper)
                    self.assertIs(paper is not None, told)
                    paper = self.call("home_paper", schema, question, word, deal)
                    self.assertIs(paper is not None, self.call("is_home_paper", schema, question, word, deal, paper))
            for deal in DEALS:
                paper = self.call("groups_paper", schema, question, deal)
                self.assertIs(paper is not None, self.call("is_groups_paper", schema, question, deal, paper))

    def test_checks(self):
        for schema in SCHEMAS:
            for deal in DEALS:
                for number, part in (*self.call("blind_rules", schema, deal), *self.call("blind_keys", schema, deal)):
                    spot = self.call("a_blind_spot", schema, deal, number, part)
                    self.assertTrue(self.call("is_blind_spot", schema, deal, number, part, spot))
                for number, other in self.call("unfair_references", schema, deal):
                    alarm = self.call("a_false_alarm", schema, deal, number, other)
                    self.assertTrue(self.call("is_false_alarm", schema, deal, number, other, alarm))
                for number in range(4):
                    self.call("good_deals", schema, deal, number)

    def test_commits(self):
        for schema in SCHEMAS:
            kinds = function("kinds")(schema)
            for deal in DEALS:
                waits = self.call("waits", schema, deal)
                for kind in kinds:
                    for mate in kinds:
                        clash = self.call("a_clash", schema, deal, kind, mate)
                        self.assertIs(clash is None, (min(kind, mate), max(kind, mate)) not in waits)
                        self.assertIs(clash is not None, self.call("is_clash", schema, deal, kind, mate, clash))

    def test_kept(self):
        for schema, question in self.each():
            for word in WORDS:
                unmoved, by_number = self.call("unmoved_kinds", schema, question, word), []
                for beside in (False, True):
                    by_number.append(self.call("kept_kinds", schema, question, word, beside))
                for kind in function("kinds")(schema):
                    paper = self.call("moved_paper", schema, question, word, kind)
                    self.assertIs(kind not in unmoved, self.call("is_moved_paper", schema, question, word, kind, paper))
                    for beside, kept in zip((False, True), by_number):
                        paper = self.call("kept_paper", schema, question, word, kind, beside)
                        told = self.call("is_kept_paper", schema, question, word, kind, beside, paper)
                        self.assertIs(kind not in kept, told)
                    paper = self.call("row_paper", schema, question, word, kind)
                    told = self.call("is_row_paper", schema, question, word, kind, paper)
                    self.assertIs(paper is not None, told)

    def test_joins(self):
        for schema, question in self.each():
            kinds = function("kinds")(schema)
            puts, takes = tuple(kinds[:4]), tuple(kinds[4:])
            mixed = tuple(sorted((*puts[:2], *takes[2:])))
            for mine in (puts, takes, mixed):
                self.call("kinds_beside", schema, mine)
                for its in (puts, takes, mixed):
                    paper = self.call("merge_paper", schema, mine, its)
                    self.assertIs(paper is not None, self.call("is_merge_paper", schema, mine, its, paper))
                    paper = self.call("adds_paper", schema, question, mine, its)
                    told = self.call("is_adds_paper", schema, question, mine, its, paper)
                    self.assertIs(paper is not None, told)


if __name__ == "__main__":
    unittest.main()
