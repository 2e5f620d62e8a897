"""At the bounds of the document the answers come without a long wait. [3] [6] to [19]"""

import time
import unittest

from helping import WORDS, Case, function, spelled
from rowsathome.board import Board

COLUMNS = (("a", "b", "c"), ("d", "e", "f"), ("g", "h", "i"), ("j", "k", "l"))
# A wait that is long: far more than any of these calls needs.
SECONDS = 20


def references(number, width):
    """Return REFERENCES to all SHEETS behind this one, by KEYS of so many COLUMNS."""
    mine = COLUMNS[number]
    return tuple(
        (other, tuple(mine[(other + at) % 3] for at in range(width)), COLUMNS[other][:width])
        for other in range(number + 1, 4)
    )


def full_schema(width):
    """Return a SCHEMA of 4 SHEETS with 3 COLUMNS, 3 RULES and 2 KEYS each."""
    sheets = []
    for number, columns in enumerate(COLUMNS):
        one, two, three = columns
        rules = (((one,), two), ((one, two), three), ((two,), three))
        sheets.append((columns, rules, (columns[:width], (two, three)), references(number, width)))
    return tuple(sheets)


def loose_schema():
    """Return a SCHEMA in which little becomes alike, so that much grows."""
    sheets = []
    for number, columns in enumerate(COLUMNS):
        sheets.append((columns, (), () if number == 0 else (columns[:1],), references(number, 1)))
    return tuple(sheets)


SCHEMAS = (full_schema(1), full_schema(2), loose_schema())
QUESTIONS = (
    ((0, 1, 2, 3), (), ()),
    ((0, 1, 2, 3), (), ("c",)),
    ((0, 1, 2, 3), (("a", "e"), ("b", "g"), ("f", "j"), ("h", "l")), ("c", "d")),
)
HAND = tuple((0, tuple(letter + other for other in "xyz")) for letter in "abcdefgh")
DEALS = (
    (("a",), ("d",), ("g",), ("j",)), (("a", "b", "c"), None, ("g", "h"), None), (("c",), None, None, ("l",)),
    (None,) * 4,
)


class Bounds(Case):
    def each(self):
        for schema in SCHEMAS:
            self.assertTrue(function("is_schema")(schema))
            for question in QUESTIONS:
                self.assertTrue(function("is_question")(schema, question))
                yield schema, question

    def call(self, name, *arguments):
        start = time.monotonic()
        told = function(name)(*arguments)
        self.assertLess(time.monotonic() - start, SECONDS, name)
        return told

    def test_unfoldings(self):
        for schema, question in self.each():
            grown = self.call("grown", schema, HAND)
            self.assertEqual(8 * 8, len(grown))
            for name in ("picture", "places_in", "tables_of"):
                self.call(name, schema, HAND)
            joins = self.call("all_joins", schema, HAND)
            self.assertTrue(self.call("are_all_joins", schema, HAND, joins))
            self.call("ways_in", schema, HAND, question)
            hand = function("hand_of_two")(schema, question, ("a", "e"))
            self.assertEqual(8, len(hand))
            self.call("ways_in", schema, hand, question)
            for name in ("settled", "settled_rows", "apart"):
                self.call(name, schema, question, ("a", "e"))
            self.call("equal_columns", schema, question)

    def test_fans(self):
        for schema, question in self.each():
            self.call("fans", schema, question)
            self.call("fewest_telling", schema, question)
            self.call("alike_columns", schema, question)
            for end in ("least", "most"):
                paper = self.call("fan_paper", schema, question, (1, 3), end)
                self.assertIs(paper is not None, self.call("is_fan_paper", schema, question, (1, 3), end, paper))

    def test_questions(self):
        for schema, question in self.each():
            for word in WORDS:
                self.call("sets_to_leave_out", schema, question, word)
                self.call("least_question", schema, question, word)
                for other in QUESTIONS:
                    paper = self.call("parting_tables", schema, question, other, word)
                    self.assertIs(paper is not None, self.call("is_parting", schema, question, other, word, paper))
            self.call("needless_links", schema, question)

    def test_felt(self):
        columns = tuple("abcdefghijkl")
        for schema, question in self.each():
            for word in WORDS:
                self.call("felt_columns", schema, question, word)
                for some in (columns, columns[1:], ("b", "e", "h", "k")):
                    pair = self.call("parting_pair", schema, question, some, word)
                    told = self.call("is_parting_pair", schema, question, some, word, pair)
                    self.assertIs(pair is not None, told)
            self.call("fixed_columns", schema, columns)
        narrow = []
        for at, names in enumerate(COLUMNS):
            further = tuple((other, names[:1], COLUMNS[other][:1]) for other in range(at + 1, 4))
            narrow.append((names[:2], (), (names[:1],), further))
        narrow = tuple(narrow)
        self.assertTrue(function("is_schema")(narrow))
        for word in WORDS:
            self.call("felt_pairs", narrow, ((0, 1, 2, 3), (), ("h",)), word)

    def test_homes_and_plans(self):
        plan = ((), ("join", ("home", ("join", 0, 1)), ("home", ("fold", ("join", 2, 3)))))
        for schema, question in self.each():
            for word in WORDS:
                self.call("deals_at_home", schema, question, word)
                for deal in DEALS:
                    self.call("right_homes", schema, question, word, deal)
                    least = self.call("a_least_plan", schema, question, word, deal)
                    self.assertTrue(self.call("is_least_plan", schema, question, word, deal, least))
                    paper = self.call("a_wrong", schema, question, word, deal, plan)
                    told = self.call("is_wrong", schema, question, word, deal, plan, paper)
                    self.assertIs(paper is not None, told)
                    paper = self.call("home_paper", schema, question, word, deal)
                    self.assertIs(paper is not None, self.call("is_home_paper", schema, question, word, deal, paper))
            for deal in DEALS:
                paper = self.call("groups_paper", schema, question, deal)
                self.assertIs(paper is not None, self.call("is_groups_paper", schema, question, deal, paper))

    def test_checks(self):
        for schema in SCHEMAS:
            for deal in DEALS:
                for number, part in (*self.call("blind_rules", schema, deal), *self.call("blind_keys", schema, deal)):
                    spot = self.call("a_blind_spot", schema, deal, number, part)
                    self.assertTrue(self.call("is_blind_spot", schema, deal, number, part, spot))
                for number, other in self.call("unfair_references", schema, deal):
                    alarm = self.call("a_false_alarm", schema, deal, number, other)
                    self.assertTrue(self.call("is_false_alarm", schema, deal, number, other, alarm))
                for number in range(4):
                    self.call("good_deals", schema, deal, number)

    def test_commits(self):
        for schema in SCHEMAS:
            kinds = function("kinds")(schema)
            for deal in DEALS:
                waits = self.call("waits", schema, deal)
                for kind in kinds:
                    for mate in kinds:
                        clash = self.call("a_clash", schema, deal, kind, mate)
                        self.assertIs(clash is None, (min(kind, mate), max(kind, mate)) not in waits)
                        self.assertIs(clash is not None, self.call("is_clash", schema, deal, kind, mate, clash))

    def test_kept(self):
        for schema, question in self.each():
            for word in WORDS:
                unmoved, by_number = self.call("unmoved_kinds", schema, question, word), []
                for beside in (False, True):
                    by_number.append(self.call("kept_kinds", schema, question, word, beside))
                for kind in function("kinds")(schema):
                    paper = self.call("moved_paper", schema, question, word, kind)
                    self.assertIs(kind not in unmoved, self.call("is_moved_paper", schema, question, word, kind, paper))
                    for beside, kept in zip((False, True), by_number):
                        paper = self.call("kept_paper", schema, question, word, kind, beside)
                        told = self.call("is_kept_paper", schema, question, word, kind, beside, paper)
                        self.assertIs(kind not in kept, told)
                    paper = self.call("row_paper", schema, question, word, kind)
                    told = self.call("is_row_paper", schema, question, word, kind, paper)
                    self.assertIs(paper is not None, told)

    def test_joins(self):
        for schema, question in self.each():
            kinds = function("kinds")(schema)
            puts, takes = tuple(kinds[:4]), tuple(kinds[4:])
            mixed = tuple(sorted((*puts[:2], *takes[2:])))
            for mine in (puts, takes, mixed):
                self.call("kinds_beside", schema, mine)
                for its in (puts, takes, mixed):
                    paper = self.call("merge_paper", schema, mine, its)
                    self.assertIs(paper is not None, self.call("is_merge_paper", schema, mine, its, paper))
                    paper = self.call("adds_paper", schema, question, mine, its)
                    told = self.call("is_adds_paper", schema, question, mine, its, paper)
                    self.assertIs(paper is not None, told)

    def promises(self, schema, question):
        for word in WORDS:
            yield ("unfelt", question, ("b", "e"), word)
            yield ("out", question, (3,), word)
            for deal in DEALS:
                yield ("told", question, word, deal)
        yield ("plan", question, "least", DEALS[0], ((), ("join", ("home", ("join", 0, 1)), ("fold", ("join", 2, 3)))))
        yield ("settles", question, ("a", "d"), 3)
        yield ("equal", question, "a", "l")
        yield ("rule", (("j",), "l"))
        yield ("key", 0, ("a", "b", "c"))
        yield ("least", question, (0, 2))
        yield ("most", question, (1,))
        yield ("same", question, QUESTIONS[1], "sum")
        for deal in DEALS:
            yield ("groups", question, deal)
            yield ("fair", deal, 0, 3)
            yield ("enough", deal, 1, schema[1][2][0])
            yield ("calm", deal, ("put", 0), ("take", 3))

    def test_promises(self):
        for schema, question in self.each():
            if not set(question[2]) & set(COLUMNS[3]):
                promises = tuple(self.promises(schema, question))
                for promise in promises:
                    self.assertTrue(self.call("is_promise", schema, promise), promise)
                    paper = self.call("a_paper", schema, promise)
                    self.assertIs(paper is None, self.call("holds", schema, promise))
                    self.assertIs(paper is not None, self.call("is_paper", schema, promise, paper))
                    if paper is None and promise[0] not in ("told", "unfelt", "groups"):
                        self.call("stands_on", schema, promise)
                self.call("what_falls", schema, ("reference", (0, 1)), promises)

    def test_a_board_with_sixty_deeds(self):
        for schema in SCHEMAS:
            start = time.monotonic()
            board = Board(schema, DEALS[0], 3)
            rows = ("same", "same", "same")
            for number in (3, 2, 1):
                board.put(number, rows)
            board.put(0, (*rows, 1))
            for at, name in enumerate("abcd"):
                board.keep(name, QUESTIONS[at % 3], WORDS[at])
            while len(board) < 58:
                board.send((spelled(len(board)),), len(board) % 2)
                board.part(DEALS[len(board) % 4])
                board.commit((("take", 0, (*rows, 1)), ("put", 0, (*rows, 1))))
                for name in ("right", "at_home", "changed", "astray", "waits"):
                    getattr(board, name)()
                for name in "abcd":
                    self.assertTrue(board.answer(name))
                    board.by_houses(name)
            mate = board.twin()
            for _ in range(len(board)):
                mate.undo()
            self.assertEqual(Board(schema, DEALS[0], 3), mate)
            self.assertLess(time.monotonic() - start, SECONDS)

    def test_texts_of_sixty_lines(self):
        for schema in SCHEMAS:
            text = self.call("schema_text", schema)
            self.assertEqual(schema, self.call("read_schema", text))
            deeds = tuple(("put", at % 4, ("abcdefgh", "abcdefgh", spelled(at), *((10 ** 30,) if at % 4 == 0 else ())))
                          for at in range(60))
            self.assertEqual(deeds, self.call("read_deeds", schema, self.call("deeds_text", deeds)))
            lines = ["put 3 a a a", "put 2 a a a", "put 1 a a a", "put 0 a a a 1", "keep a sum 0 1 2 3 / - / -"]
            lines += ["waits", "right", "home", "astray", "changed", "houses a"] * 8
            text = "\n".join(lines[:53]) + "\nundo" * 7
            self.assertEqual(60, len(self.call("replies", schema, DEALS[0], 3, text)))
        sheets = "\n".join(f"{spelled(at)} / *>{spelled(at)} / * / -" for at in range(60))
        self.assertEqual(60, len(self.call("read_schema", sheets)))
        self.call("read_dealing", "3 / " + " ".join(f"{spelled(at)}:1" for at in range(26)))


if __name__ == "__main__":
    unittest.main()
