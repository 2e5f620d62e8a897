"""At the bounds of the document the answers come without a long wait. [3] [6] [7] [8]"""

import time
import unittest

from helping import WORDS, Case, function

COLUMNS = (("a", "b", "c"), ("d", "e", "f"), ("g", "h", "i"), ("j", "k", "l"))
# A wait that is long: far more than any of these calls needs.
SECONDS = 20


def references(number, width):
    """Return REFERENCES to all SHEETS behind this one, by KEYS of so many COLUMNS."""
    mine = COLUMNS[number]
    return tuple(
        (other, tuple(mine[(other + at) % 3] for at in range(width)), COLUMNS[other][:width])
        for other in range(number + 1, 4)
    )


def full_schema(width):
    """Return a SCHEMA of 4 SHEETS with 3 COLUMNS, 3 RULES and 2 KEYS each."""
    sheets = []
    for number, columns in enumerate(COLUMNS):
        one, two, three = columns
        rules = (((one,), two), ((one, two), three), ((two,), three))
        sheets.append((columns, rules, (columns[:width], (two, three)), references(number, width)))
    return tuple(sheets)


def loose_schema():
    """Return a SCHEMA in which little becomes alike, so that much grows."""
    sheets = []
    for number, columns in enumerate(COLUMNS):
        sheets.append((columns, (), () if number == 0 else (columns[:1],), references(number, 1)))
    return tuple(sheets)


SCHEMAS = (full_schema(1), full_schema(2), loose_schema())
QUESTIONS = (
    ((0, 1, 2, 3), (), ()),
    ((0, 1, 2, 3), (), ("c",)),
    ((0, 1, 2, 3), (("a", "e"), ("b", "g"), ("f", "j"), ("h", "l")), ("c", "d")),
)
HAND = tuple((0, tuple(letter + other for other in "xyz")) for letter in "abcdefgh")


class Bounds(Case):
    def each(self):
        for schema in SCHEMAS:
            self.assertTrue(function("is_schema")(schema))
            for question in QUESTIONS:
                self.assertTrue(function("is_question")(schema, question))
                yield schema, question

    def call(self, name, *arguments):
        start = time.monotonic()
        told = function(name)(*arguments)
        self.assertLess(time.monotonic() - start, SECONDS, name)
        return told

    def test_unfoldings(self):
        for schema, question in self.each():
            grown = self.call("grown", schema, HAND)
            self.assertEqual(8 * 8, len(grown))
            for name in ("picture", "places_in", "tables_of"):
                self.call(name, schema, HAND)
            joins = self.call("all_joins", schema, HAND)
            self.assertTrue(self.call("are_all_joins", schema, HAND, joins))
            self.call("ways_in", schema, HAND, question)
            hand = function("hand_of_two")(schema, question, ("a", "e"))
            self.assertEqual(8, len(hand))
            self.call("ways_in", schema, hand, question)
            for name in ("settled", "settled_rows", "apart"):
                self.call(name, schema, question, ("a", "e"))
            self.call("equal_columns", schema, question)

    def test_fans(self):
        for schema, question in self.each():
            self.call("fans", schema, question)
            self.call("fewest_telling", schema, question)
            self.call("alike_columns", schema, question)
            for end in ("least", "most"):
                paper = self.call("fan_paper", schema, question, (1, 3), end)
                self.assertIs(paper is not None, self.call("is_fan_paper", schema, question, (1, 3), end, paper))

    def test_questions(self):
        for schema, question in self.each():
            for word in WORDS:
                self.call("sets_to_leave_out", schema, question, word)
                self.call("least_question", schema, question, word)
                for other in QUESTIONS:
                    paper = self.call("parting_tables", schema, question, other, word)
                    self.assertIs(paper is not None, self.call("is_parting", schema, question, other, word, paper))
            self.call("needless_links", schema, question)


if __name__ == "__main__":
    unittest.main()
