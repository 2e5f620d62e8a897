"""PROMISES over drawn SCHEMAS, held against the parts that they name and small TABLES. [1] [16]"""

import itertools
import random
import unittest

from helping import (
    WORDS, Case, all_kinds, breaks_part, drawn_question, function, has, kept_small_tables, met, plain_meetings,
    plainly_keeps, small_schema, small_tables, some_deal, some_dealing, some_of,
)

# For each word of a PROMISE the function that tells whether it holds, that which tells a PAPER, that which judges one.
PARTS = {
    "equal": ("is_equal", None, None),
    "least": (None, "fan_paper", "is_fan_paper"),
    "most": (None, "fan_paper", "is_fan_paper"),
    "same": ("are_alike", "parting_tables", "is_parting"),
    "plan": ("is_right", "a_wrong", "is_wrong"),
    "told": ("is_told_at_home", "home_paper", "is_home_paper"),
    "groups": ("groups_at_home", "groups_paper", "is_groups_paper"),
    "enough": ("is_enough", "a_blind_spot", "is_blind_spot"),
    "fair": ("is_fair", "a_false_alarm", "is_false_alarm"),
    "calm": ("is_calm", "a_clash", "is_clash"),
    "unfelt": (None, "parting_pair", "is_parting_pair"),
}
# What need not go on to hold, or have the same PAPERS, with more PIECES.
LOOSE = ("calm", "out", "plan")


def some_tree(chance, numbers):
    """Return a TREE of these SHEETS without homes."""
    tree = numbers[0]
    if len(numbers) > 1:
        at = chance.randint(1, len(numbers) - 1)
        tree = ("join", some_tree(chance, numbers[:at]), some_tree(chance, numbers[at:]))
    return ("fold", tree) if chance.random() < 0.2 else tree


def some_plan(chance, schema, question):
    free = [number for number in question[0] if number and not set(schema[number][0]) & set(question[2])]
    out = some_of(chance, free)
    left = [number for number in question[0] if number not in out]
    at = chance.randint(0, len(left))
    trees = [some_tree(chance, part) for part in (left[:at], left[at:]) if part]
    trees = [("home", tree) if chance.random() < 0.6 else tree for tree in trees]
    return (out, trees[0] if len(trees) == 1 else ("join", *trees))


class Promises(Case):
    def setUp(self):
        self.chance = random.Random(16)

    def some_promise(self, schema):
        """Return a PROMISE of this SCHEMA."""
        chance, question, deal = self.chance, drawn_question(self.chance, schema), some_deal(self.chance, schema)
        columns = [column for number in question[0] for column in schema[number][0]]
        number = chance.randrange(len(schema))
        own, word = schema[number][0], chance.choice(WORDS)
        free = [at for at in question[0] if at and not set(schema[at][0]) & set(question[2])]
        parts = [(at, part) for at, sheet in enumerate(schema) for part in (*sheet[1], *sheet[2])]
        others = [(at, reference[0]) for at, sheet in enumerate(schema) for reference in sheet[3]]
        found = [
            ("rule", (some_of(chance, own), chance.choice(own))), ("key", number, some_of(chance, own)),
            ("equal", question, chance.choice(columns), chance.choice(columns)),
            ("settles", question, some_of(chance, columns), chance.choice((*columns, *question[0]))),
            ("least", question, some_of(chance, question[0])), ("most", question, some_of(chance, question[0])),
            ("same", question, drawn_question(chance, schema), word), ("out", question, some_of(chance, free), word),
            ("unfelt", question, some_of(chance, function("columns_of")(schema)), word),
            ("plan", question, word, deal, some_plan(chance, schema, question)), ("told", question, word, deal),
            ("groups", question, deal),
            ("calm", deal, chance.choice(all_kinds(schema)), chance.choice(all_kinds(schema))),
        ]
        if parts:
            found.append(("enough", deal, *chance.choice(parts)))
        if others:
            found.append(("fair", deal, *chance.choice(others)))
        promise = chance.choice(found)
        self.assertIs(True, function("is_promise")(schema, promise), (schema, promise))
        return promise

    def each(self, many):
        for _ in range(many):
            schema = small_schema(self.chance)
            for _ in range(4):
                yield schema, self.some_promise(schema)

    def test_a_promise_holds_by_the_part_that_it_names(self):
        told = set()
        for schema, promise in self.each(300):
            word, *members = promise
            held, paper = function("holds")(schema, promise), function("a_paper")(schema, promise)
            told.add((word, held))
            self.assertIs(held, paper is None)
            self.assertIs(not held, function("is_paper")(schema, promise, paper))
            if word in PARTS:
                self.is_by_part(schema, word, members, held, paper)
            elif word == "settles":
                name = "settled_rows" if isinstance(members[2], int) else "settled"
                self.assertIs(held, members[2] in function(name)(schema, *members[:2]))
            elif word == "out":
                self.assertIs(held, function("can_leave_out")(schema, *members))
                left = function("question_without")(schema, *members[:2])
                self.assertEqual(paper, function("parting_tables")(schema, members[0], left, members[2]))
        self.assertEqual(30, len(told), told)

    def is_by_part(self, schema, word, members, held, paper):
        tells, shows, judges = PARTS[word]
        if word in ("least", "most"):
            least, most = function("fan")(schema, *members)
            self.assertIs(held, least == 1 if word == "least" else most == 1)
            members = [*members, word]
        if word == "unfelt":
            self.assertIs(held, not function("feels")(schema, *members))
        if tells:
            self.assertIs(held, function(tells)(schema, *members))
        if shows:
            self.assertEqual(paper, function(shows)(schema, *members))
            self.assertIs(not held, function(judges)(schema, *members, paper))

    def test_rows_and_meetings(self):
        """Hold what this point tells by itself against small TABLES."""
        told, wanted_words = {}, ("rule", "key", "equal", "settles")
        for schema, promise in self.each(350):
            if promise[0] in wanted_words:
                held = function("holds")(schema, promise)
                for tables in kept_small_tables(self.chance, schema, limit=25):
                    for thing, wanted in self.shows(schema, promise, tables):
                        told[promise[0], wanted] = told.get((promise[0], wanted), 0) + 1
                        self.assertFalse(held and wanted, (schema, promise, thing))
                        self.assertIs(wanted, function("is_paper")(schema, promise, thing))
                if not held:
                    paper = function("a_paper")(schema, promise)
                    tables = paper if promise[0] in ("rule", "key") else paper[0]
                    self.assertTrue(plainly_keeps(schema, tables))
                    shown = [thing for thing, wanted in self.shows(schema, promise, tables) if wanted]
                    self.assertIn(paper, shown)
        self.assertEqual(8, len(told), told)

    def shows(self, schema, promise, tables):
        """Return the pairs of a thing with these TABLES and whether it is a PAPER against the PROMISE."""
        word, *members = promise
        if word in ("rule", "key"):
            part = members[0] if word == "rule" else members[1]
            number = function("sheet_of")(schema, part[1]) if word == "rule" else members[0]
            pairs = itertools.combinations(tables[number], 2)
            if word == "rule":
                few, one = part
                return [(tables, any(
                    has(schema, number, row, few) == has(schema, number, mate, few)
                    and has(schema, number, row, [one]) != has(schema, number, mate, [one]) for row, mate in pairs))]
            return [(tables, any(breaks_part(schema, number, part, row, mate) for row, mate in pairs))]
        question = members[0]
        found = plain_meetings(schema, tables, question)
        names = {meeting: met(schema, tables, question[0], meeting) for meeting in found}
        if word == "equal":
            return [((tables, meeting), names[meeting][members[1]] != names[meeting][members[2]]) for meeting in found]
        some, what = members[1:]
        pairs = list(itertools.product(found, repeat=2))[:40]
        return [
            ((tables, one, other), all(names[one][column] == names[other][column] for column in some) and (
                one[question[0].index(what)] != other[question[0].index(what)] if isinstance(what, int)
                else names[one][what] != names[other][what]))
            for one, other in pairs
        ]

    def test_pieces(self):
        for _ in range(100):
            schema = small_schema(self.chance)
            pieces = function("pieces")(schema)
            wanted = [("rule", rule) for sheet in schema for rule in sheet[1]]
            for number, sheet in enumerate(schema):
                wanted += [("key", (number, key)) for key in sheet[2]]
                wanted += [("reference", (number, reference[0])) for reference in sheet[3]]
            self.assertEqual(tuple(sorted(wanted)), pieces)
            bound = {("key", (other, key)) for sheet in schema for other, _, key in sheet[3]}
            for piece in pieces:
                if piece in bound:
                    self.refuses("Unfit", {}, "without_piece", schema, piece)
                else:
                    left = function("without_piece")(schema, piece)
                    self.assertTrue(function("is_schema")(left))
                    self.assertEqual(tuple(part for part in pieces if part != piece), function("pieces")(left))

    def free(self, schema):
        bound = {("key", (other, key)) for sheet in schema for other, _, key in sheet[3]}
        return [piece for piece in function("pieces")(schema) if piece not in bound]

    def test_what_falls(self):
        fallen = 0
        for _ in range(60):
            schema = small_schema(self.chance)
            promises = tuple(self.some_promise(schema) for _ in range(8))
            standing = {at: [] for at in range(8)}
            for piece in self.free(schema):
                left, wanted = function("without_piece")(schema, piece), []
                for at, promise in enumerate(promises):
                    if function("holds")(schema, promise) and function("is_promise")(left, promise):
                        if not function("holds")(left, promise):
                            wanted.append(at)
                            standing[at].append(piece)
                fallen += len(wanted)
                self.assertEqual(tuple(wanted), function("what_falls")(schema, piece, promises))
            for at, promise in enumerate(promises):
                if function("holds")(schema, promise):
                    self.assertEqual(tuple(standing[at]), function("stands_on")(schema, promise))
                else:
                    self.refuses("CanNot", {}, "stands_on", schema, promise)
        self.assertGreater(fallen, 15)

    def test_with_more_pieces(self):
        """What holds goes on to hold, and a PAPER was one, as PIECES come."""
        held = papers = 0
        for schema, promise in self.each(400):
            for piece in self.free(schema):
                left = function("without_piece")(schema, piece)
                if function("is_promise")(left, promise):
                    one, other = function("holds")(left, promise), function("a_paper")(schema, promise)
                    loose = promise[0] == "calm" or (promise[0] == "plan" and promise[2] in ("least", "greatest"))
                    if one and not loose:
                        held += 1
                        self.assertIsNone(other, (left, schema, promise))
                    if other is not None and promise[0] not in LOOSE:
                        papers += 1
                        self.assertTrue(function("is_paper")(left, promise, other), (left, schema, promise, other))
        self.assertGreater(held, 300)
        self.assertGreater(papers, 300)

    def test_fewest_pieces(self):
        sizes = set()
        for schema, promise in self.each(120):
            pieces = function("pieces")(schema)
            if len(pieces) <= 6 and function("holds")(schema, promise):
                found = function("fewest_pieces")(schema, promise)
                sizes.add(len(found))
                every = [some for many in range(len(found) + 1) for some in itertools.combinations(pieces, many)]
                self.assertEqual(found, [some for some in every if self.enough(schema, some, promise)][0])
        self.assertGreaterEqual(sizes, {0, 1, 2})

    def enough(self, schema, some, promise):
        """Tell whether these PIECES make a SCHEMA with which the PROMISE is one and holds."""
        left = tuple(
            (columns, tuple(part for part in rules if ("rule", part) in some),
             tuple(part for part in keys if ("key", (number, part)) in some),
             tuple(part for part in references if ("reference", (number, part[0])) in some))
            for number, (columns, rules, keys, references) in enumerate(schema)
        )
        if not function("is_schema")(left) or not function("is_promise")(left, promise):
            return False
        return function("holds")(left, promise)

    def test_papers_of_tables_and_dealings(self):
        """Hold the judge against the part that it asks, with things that may be PAPERS."""
        papers = 0
        for schema, promise in self.each(200):
            word, *members = promise
            if word in ("told", "groups", "plan", "enough", "fair"):
                deal = [part for part in members if function("is_deal")(schema, part)][0]
                for tables in small_tables(self.chance, schema, limit=8):
                    thing = (tables, some_dealing(self.chance, schema, deal))
                    wanted = function(PARTS[word][2])(schema, *members, thing)
                    papers += wanted
                    self.assertIs(wanted, function("is_paper")(schema, promise, thing))
        self.assertGreater(papers, 10)


if __name__ == "__main__":
    unittest.main()
