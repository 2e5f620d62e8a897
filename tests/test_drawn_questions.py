"""Fans, alike QUESTIONS and what can be left out, over drawn SCHEMAS, held against all small TABLES. [7] [8]"""

import itertools
import random
import unittest

from helping import (
    WORDS, Case, drawn_question, function, kept_small_tables, plain_answer, plain_meetings, plainly_keeps, small_schema,
    some_of, some_schema, some_tables,
)


def plain_ways_on(schema, question, tables, some):
    """Return the pairs of all PARTS and how many MEETINGS each goes on to, as [7] tells them."""
    columns = {column for number in some for column in schema[number][0]}
    links = tuple(link for link in question[1] if set(link) <= columns)
    places = [question[0].index(number) for number in some]
    found = [tuple(meeting[place] for place in places) for meeting in plain_meetings(schema, tables, question)]
    parts = plain_meetings(schema, tables, (some, links, ()))
    return tuple((part, found.count(part)) for part in sorted(parts))


def one_all_over(schema):
    """Return TABLES of one ROW a SHEET, with one NAME all over."""
    return tuple(
        ((("a",) * len(sheet[0]) + ((1,) if number == 0 else ())),) for number, sheet in enumerate(schema)
    )


class Drawn(Case):
    def setUp(self):
        self.chance = random.Random(7)

    def each(self, many, draw=small_schema):
        for _ in range(many):
            schema = draw(self.chance)
            question = drawn_question(self.chance, schema)
            self.assertTrue(function("is_question")(schema, question), (schema, question))
            yield schema, question


class Fans(Drawn):
    def test_ways_on(self):
        for schema, question in self.each(200, some_schema):
            tables, some = some_tables(self.chance, schema), some_of(self.chance, question[0])
            wanted = plain_ways_on(schema, question, tables, some)
            self.assertEqual(wanted, function("ways_on")(schema, question, tables, some))

    def test_fans_and_their_papers(self):
        seen = set()
        for schema, question in self.each(80):
            every = kept_small_tables(self.chance, schema, limit=80)
            fans = []
            for many in range(len(question[0]) + 1):
                for some in itertools.combinations(question[0], many):
                    fan = function("fan")(schema, question, some)
                    seen.add(fan)
                    self.assertIn(fan, ((0, None), (0, 1), (1, None), (1, 1)))
                    if many == 1:
                        fans.append(fan)
                    self.look_at_papers(schema, question, some, fan)
                    counts = [
                        count for tables in every for _, count in plain_ways_on(schema, question, tables, some)
                    ]
                    self.assertTrue(fan[0] == 0 or 0 not in counts, (schema, question, some))
                    self.assertTrue(fan[1] is None or max([0, *counts]) <= 1, (schema, question, some))
            self.assertEqual(tuple(fans), function("fans")(schema, question))
        self.assertEqual({(0, None), (0, 1), (1, None), (1, 1)}, seen)

    def look_at_papers(self, schema, question, some, fan):
        for end, sure in (("least", fan[0] == 1), ("most", fan[1] == 1)):
            paper = function("fan_paper")(schema, question, some, end)
            self.assertIs(sure, paper is None)
            if paper is not None:
                self.assertTrue(function("is_fan_paper")(schema, question, some, end, paper))
                self.assertTrue(function("is_tables")(schema, paper) and plainly_keeps(schema, paper))
                counts = [count for _, count in plain_ways_on(schema, question, paper, some)]
                self.assertTrue(0 in counts if end == "least" else max(counts) > 1)

    def test_is_fan_paper(self):
        told = set()
        for schema, question in self.each(150):
            some = some_of(self.chance, question[0])
            for tables in (some_tables(self.chance, schema), *kept_small_tables(self.chance, schema, limit=5)):
                counts = [count for _, count in plain_ways_on(schema, question, tables, some)]
                kept = plainly_keeps(schema, tables)
                for end, shows in (("least", 0 in counts), ("most", max([0, *counts]) > 1)):
                    given = function("is_fan_paper")(schema, question, some, end, tables)
                    self.assertIs(kept and shows, given)
                    told.add((end, kept, shows))
        self.assertEqual(8, len(told))

    def test_in_tables_of_one_row_each_part_goes_on_to_one(self):
        for schema, question in self.each(60, some_schema):
            tables = one_all_over(schema)
            self.assertTrue(plainly_keeps(schema, tables))
            some = some_of(self.chance, question[0])
            self.assertEqual((((0,) * len(some), 1),), function("ways_on")(schema, question, tables, some))

    def test_told_by(self):
        for schema, question in self.each(80):
            sets = [
                some for many in range(len(question[0]) + 1) for some in itertools.combinations(question[0], many)
            ]
            every = kept_small_tables(self.chance, schema, limit=80)
            telling = []
            for some in sets:
                told = function("told_by")(schema, question, some)
                self.assertLessEqual(set(some), set(told))
                if told == question[0]:
                    telling.append(some)
                self.assertEqual(told == question[0], function("fan")(schema, question, some)[1] == 1)
                for tables in every:
                    found = {}
                    for meeting in plain_meetings(schema, tables, question):
                        rows = dict(zip(question[0], meeting))
                        part = tuple(rows[number] for number in some)
                        wanted = [rows[number] for number in told]
                        self.assertEqual(wanted, found.setdefault(part, wanted))
                paper = function("fan_paper")(schema, question, some, "most")
                if paper is not None:
                    self.assertEqual(set(told), self.told_in(schema, question, paper, some))
            fewest = min(len(some) for some in telling)
            wanted = min(some for some in telling if len(some) == fewest)
            self.assertEqual(wanted, function("fewest_telling")(schema, question))

    def told_in(self, schema, question, tables, some):
        """Return in which SHEETS two MEETINGS with the same PART of these TABLES always have the same ROW."""
        same = set(question[0])
        for one, other in itertools.combinations(plain_meetings(schema, tables, question), 2):
            rows, mates = dict(zip(question[0], one)), dict(zip(question[0], other))
            if all(rows[number] == mates[number] for number in some):
                same -= {number for number in question[0] if rows[number] != mates[number]}
        return same

    def test_alike_columns(self):
        for schema, question in self.each(80):
            sets = function("equal_columns")(schema, question)
            wanted = sorted(pair for part in sets for pair in itertools.combinations(part, 2))
            self.assertEqual(tuple(wanted), function("alike_columns")(schema, question))
            links = [pair for pair in wanted if self.sheet(schema, pair[0]) != self.sheet(schema, pair[1])]
            self.assertEqual(tuple(links), function("full_links")(schema, question))

    def sheet(self, schema, column):
        return [number for number, sheet in enumerate(schema) if column in sheet[0]][0]


class Questions(Drawn):
    def other_question(self, schema, question):
        """Return a QUESTION that may be alike to this one: some LINKS, SHEETS more or less, another one."""
        chosen, links, groups = question
        kind = self.chance.randrange(4)
        if kind == 0:
            return drawn_question(self.chance, schema)
        if kind == 1:
            return (chosen, some_of(self.chance, links), groups)
        if kind == 2:
            full = function("full_links")(schema, question)
            return (chosen, some_of(self.chance, full), groups)
        mates = {}
        for pair in function("alike_columns")(schema, question):
            mates.setdefault(pair[0], []).append(pair[1])
            mates.setdefault(pair[1], []).append(pair[0])
        columns = {self.chance.choice([column, *mates.get(column, [])]) for column in groups}
        return (chosen, links, tuple(sorted(columns)))

    def test_alike_and_parting(self):
        told = set()
        for schema, one in self.each(150):
            other = self.other_question(schema, one)
            every = kept_small_tables(self.chance, schema, limit=80)
            for word in WORDS:
                alike = function("are_alike")(schema, one, other, word)
                self.assertIs(alike, function("are_alike")(schema, other, one, word))
                told.add((word, alike))
                paper = function("parting_tables")(schema, one, other, word)
                self.assertIs(alike, paper is None)
                if alike:
                    for tables in every:
                        answers = [plain_answer(schema, tables, part, word) for part in (one, other)]
                        self.assertEqual(*answers, (schema, one, other, tables))
                else:
                    self.assertTrue(function("is_tables")(schema, paper) and plainly_keeps(schema, paper))
                    answers = [plain_answer(schema, paper, part, word) for part in (one, other)]
                    self.assertNotEqual(*answers, (schema, one, other, paper))
                    self.assertTrue(function("is_parting")(schema, one, other, word, paper))
        self.assertEqual(8, len(told))

    def test_alike_by_words(self):
        for schema, one in self.each(200, some_schema):
            other = self.other_question(schema, one)
            alike = {word: function("are_alike")(schema, one, other, word) for word in WORDS}
            self.assertIs(alike["least"], alike["greatest"])
            self.assertIs(alike["sum"], alike["number"])
            self.assertTrue(alike["least"] or not alike["sum"])
            self.assertIs(alike["sum"], are_the_same(schema, one, other), (schema, one, other))
            self.assertIs(alike["least"], show_the_same(schema, one, other))

    def test_is_parting(self):
        told = set()
        for schema, one in self.each(150):
            other = self.other_question(schema, one)
            for tables in (some_tables(self.chance, schema), *kept_small_tables(self.chance, schema, limit=5)):
                kept = plainly_keeps(schema, tables)
                for word in WORDS:
                    unlike = plain_answer(schema, tables, one, word) != plain_answer(schema, tables, other, word)
                    self.assertIs(kept and unlike, function("is_parting")(schema, one, other, word, tables))
                    told.add((word, kept, unlike))
        self.assertEqual(16, len(told))

    def test_needless_links(self):
        found = 0
        for schema, question in self.each(150):
            chosen, links, groups = question
            wanted = []
            for link in links:
                less = (chosen, tuple(mate for mate in links if mate != link), groups)
                if function("is_equal")(schema, less, *link):
                    wanted.append(link)
            self.assertEqual(tuple(wanted), function("needless_links")(schema, question))
            found += len(wanted)
        self.assertGreater(found, 3)

    def test_left_out(self):
        told = set()
        for schema, question in self.each(80):
            chosen, _, groups = question
            free = [
                number for number in chosen if number > 0 and not set(groups) & set(schema[number][0])
            ]
            sets = [some for many in range(len(free) + 1) for some in itertools.combinations(free, many)]
            every = kept_small_tables(self.chance, schema, limit=60)
            full = function("full_links")(schema, question)
            for word in WORDS:
                out = []
                for some in sets:
                    left = tuple(number for number in chosen if number not in some)
                    columns = {column for number in left for column in schema[number][0]}
                    rest = (left, tuple(link for link in full if set(link) <= columns), groups)
                    self.assertEqual(rest, function("question_without")(schema, question, some))
                    can = function("can_leave_out")(schema, question, some, word)
                    self.assertIs(can, function("are_alike")(schema, question, rest, word))
                    told.add((word, can))
                    if can:
                        out.append(some)
                        for tables in every:
                            answers = [plain_answer(schema, tables, part, word) for part in (question, rest)]
                            self.assertEqual(*answers)
                self.assertIn((), out)
                self.assertEqual(sorted(out), function("sets_to_leave_out")(schema, question, word))
                most = min(some for some in out if len(some) == max(map(len, out)))
                self.assertEqual(most, function("most_left_out")(schema, question, word))
                least = function("question_without")(schema, question, most)
                self.assertEqual(least, function("least_question")(schema, question, word))
        self.assertEqual(8, len(told))


def drawn_meeting(schema, question):
    """Return the PICTURE of a MEETING, and what it shows there."""
    hand = function("hand_of_meeting")(schema, question)
    rows, places = function("picture")(schema, hand), function("places_in")(schema, hand)
    return rows, shown_by(schema, rows, question, places)


def shown_by(schema, rows, question, way):
    marks = {}
    for number, place in zip(question[0], way):
        marks.update(zip(schema[number][0], rows[place][1]))
    return tuple(marks[column] for column in question[2])


def show_the_same(schema, one, other):
    """Tell whether in the PICTURE of a MEETING of each there is one of the other that shows the same."""
    for mine, its in ((one, other), (other, one)):
        rows, shown = drawn_meeting(schema, mine)
        ways = function("ways_in")(schema, function("hand_of_meeting")(schema, mine), its)
        if shown not in [shown_by(schema, rows, its, way) for way in ways]:
            return False
    return True


def are_the_same(schema, one, other):
    """Tell whether the PICTURES of a MEETING of each are the same but for marks and order, and what is shown."""
    rows, shown = drawn_meeting(schema, one)
    mates, wanted = drawn_meeting(schema, other)
    if len(rows) != len(mates) or len(shown) != len(wanted):
        return False
    return matched(rows, mates, 0, dict(zip(shown, wanted)), dict(zip(wanted, shown)), shown, wanted)


def matched(rows, mates, at, there, back, shown, wanted):
    if [there[mark] for mark in shown] != list(wanted) or [back[mark] for mark in wanted] != list(shown):
        return False
    if at == len(rows):
        return True
    number, marks = rows[at]
    for place, mate in enumerate(mates):
        if mate is not None and mate[0] == number:
            to, fro = dict(there), dict(back)
            pairs = list(zip(marks, mate[1]))
            if all(to.setdefault(m, n) == n and fro.setdefault(n, m) == m for m, n in pairs):
                left = [*mates[:place], None, *mates[place + 1:]]
                if matched(rows, left, at + 1, to, fro, shown, wanted):
                    return True
    return False


if __name__ == "__main__":
    unittest.main()
