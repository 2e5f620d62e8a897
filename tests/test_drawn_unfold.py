"""Unfoldings over drawn SCHEMAS, held against a plain unfolding and against all small TABLES. [6]"""

import itertools
import random
import unittest

from helping import (
    Case, Plain, drawn_question, function, has, kept_small_tables, met, plain_meetings, plainly_keeps, small_schema,
    some_of, some_schema, spelled,
)


def some_hand(chance, schema, most=4):
    """Return a HAND of a few ROWS, often alike in something."""
    hand = []
    for _ in range(chance.randint(0, most)):
        number = chance.randrange(len(schema))
        hand.append((number, tuple(chance.choice("abcde") for _ in schema[number][0])))
    return tuple(hand)


class Unfolded(Case):
    def setUp(self):
        self.chance = random.Random(6)

    def each(self, many, draw=small_schema):
        for _ in range(many):
            schema = draw(self.chance)
            self.assertTrue(function("is_schema")(schema), schema)
            yield schema

    def test_grown_and_pictures(self):
        merged = 0
        for schema in self.each(400, lambda chance: chance.choice((small_schema, some_schema))(chance)):
            hand = some_hand(self.chance, schema)
            self.assertTrue(function("is_hand")(schema, hand))
            plain = Plain(schema, hand)
            rows, places = plain.picture(len(hand))
            self.assertEqual(plain.grown, function("grown")(schema, hand))
            self.assertEqual(rows, function("picture")(schema, hand), (schema, hand))
            self.assertEqual(places, function("places_in")(schema, hand), (schema, hand))
            merged += len(rows) < len(plain.grown)
        self.assertGreater(merged, 100)

    def test_tables_of_keep_and_hold(self):
        for schema in self.each(300, some_schema):
            hand = some_hand(self.chance, schema)
            tables, rows = function("tables_of")(schema, hand), function("picture")(schema, hand)
            places = function("places_in")(schema, hand)
            self.assertTrue(function("is_tables")(schema, tables), tables)
            self.assertTrue(plainly_keeps(schema, tables), (schema, hand, tables))
            self.assertEqual(len(rows), sum(len(part) for part in tables))
            for at, (number, marks) in enumerate(rows):
                row = [row for row in tables[number] if marked_as(row, marks, number, at)]
                self.assertEqual(1, len(row), (rows, tables))
            for (number, names_in), place in zip(hand, places):
                self.assertEqual(number, rows[place][0])
                self.assertEqual(len(set(names_in)), len(set(zip(names_in, rows[place][1]))))

    def test_joins(self):
        for schema in self.each(300):
            hand = some_hand(self.chance, schema)
            joins = function("all_joins")(schema, hand)
            self.assertIsInstance(joins, tuple)
            self.assertTrue(function("are_joins")(schema, hand, joins), (schema, hand, joins))
            self.assertTrue(function("are_all_joins")(schema, hand, joins), (schema, hand, joins))
            for many in range(len(joins)):
                self.assertTrue(function("are_joins")(schema, hand, joins[:many]))
            shuffled = list(joins)
            self.chance.shuffle(shuffled)
            wanted, done = plain_joins(schema, hand, shuffled)
            self.assertIs(wanted, function("are_joins")(schema, hand, tuple(shuffled)))
            self.assertIs(wanted and done, function("are_all_joins")(schema, hand, tuple(shuffled)))
            less = [join for join in joins if self.chance.random() < 0.7]
            wanted, done = plain_joins(schema, hand, less)
            self.assertIs(wanted, function("are_joins")(schema, hand, tuple(less)))
            self.assertIs(wanted and done, function("are_all_joins")(schema, hand, tuple(less)))

    def test_ways_in(self):
        for schema in self.each(200):
            hand, question = some_hand(self.chance, schema), drawn_question(self.chance, schema)
            rows = function("picture")(schema, hand)
            chosen, links, _ = question
            wanted = []
            for way in itertools.product(range(len(rows)), repeat=len(chosen)):
                if all(rows[place][0] == number for number, place in zip(chosen, way)):
                    marks = {
                        column: mark for number, place in zip(chosen, way)
                        for column, mark in zip(schema[number][0], rows[place][1])
                    }
                    if all(marks[one] == marks[other] for one, other in links):
                        wanted.append(way)
            self.assertEqual(wanted, function("ways_in")(schema, hand, question))

    def test_what_is_alike_is_alike_in_all_tables_that_hold_the_hand(self):
        held = 0
        for schema in self.each(60):
            hand, question = some_hand(self.chance, schema, 2), drawn_question(self.chance, schema)
            rows, places = function("picture")(schema, hand), function("places_in")(schema, hand)
            way = bool(function("ways_in")(schema, hand, question))
            told = {}
            for (number, names), place in zip(hand, places):
                told.update(zip(names, rows[place][1]))
            for tables in kept_small_tables(self.chance, schema):
                for taken in itertools.product(*[tables[number] for number, _ in hand]):
                    seen = {}
                    pairs = [
                        (name, mate) for (_, names), row in zip(hand, taken) for name, mate in zip(names, row)
                    ]
                    if any(seen.setdefault(name, mate) != mate for name, mate in pairs):
                        continue
                    held += 1
                    for one, other in itertools.combinations(told, 2):
                        self.assertTrue(told[one] != told[other] or seen[one] == seen[other])
                    for at, mate in itertools.combinations(range(len(hand)), 2):
                        self.assertTrue(places[at] != places[mate] or taken[at] == taken[mate])
                    if way:
                        self.assertTrue(plain_meetings(schema, tables, question), (schema, hand, tables))
            if not way:
                self.assertEqual([], plain_meetings(schema, function("tables_of")(schema, hand), question))
        self.assertGreater(held, 2000)

    def test_equal(self):
        for schema in self.each(60):
            question = drawn_question(self.chance, schema)
            columns = sorted(column for number in question[0] for column in schema[number][0])
            equal = {
                pair for pair in itertools.product(columns, repeat=2) if function("is_equal")(schema, question, *pair)
            }
            groups = {tuple(mate for mate in columns if (column, mate) in equal) for column in columns}
            wanted = tuple(sorted(group for group in groups if len(group) > 1))
            self.assertEqual(wanted, function("equal_columns")(schema, question))
            for tables in kept_small_tables(self.chance, schema):
                for meeting in plain_meetings(schema, tables, question):
                    names = met(schema, tables, question[0], meeting)
                    self.assertTrue(all(names[one] == names[other] for one, other in equal))
            hand = function("hand_of_meeting")(schema, question)
            tables = function("tables_of")(schema, hand)
            seen = [met(schema, tables, question[0], part) for part in plain_meetings(schema, tables, question)]
            for one, other in itertools.product(columns, repeat=2):
                unlike = any(names[one] != names[other] for names in seen)
                self.assertEqual((one, other) not in equal, unlike)

    def test_settled_and_apart(self):
        for schema in self.each(80):
            question = drawn_question(self.chance, schema)
            columns = sorted(column for number in question[0] for column in schema[number][0])
            some = some_of(self.chance, columns, self.chance.randint(0, 3))
            settled = function("settled")(schema, question, some)
            numbers = function("settled_rows")(schema, question, some)
            for tables in kept_small_tables(self.chance, schema, limit=120):
                found = {}
                for meeting in plain_meetings(schema, tables, question):
                    names = met(schema, tables, question[0], meeting)
                    told = ([names[column] for column in settled], [
                        place for number, place in zip(question[0], meeting) if number in numbers])
                    self.assertEqual(told, found.setdefault(tuple(names[column] for column in some), told))
            tables, one, other = function("apart")(schema, question, some)
            self.assertTrue(plainly_keeps(schema, tables))
            self.assertEqual(function("tables_of")(schema, function("hand_of_two")(schema, question, some)), tables)
            for meeting in (one, other):
                self.assertIn(meeting, plain_meetings(schema, tables, question))
            names, mates = [met(schema, tables, question[0], meeting) for meeting in (one, other)]
            self.assertEqual(settled, tuple(column for column in columns if names[column] == mates[column]))
            self.assertLessEqual(set(some), set(settled))
            same = tuple(number for number, at, mate in zip(question[0], one, other) if at == mate)
            self.assertEqual(numbers, same)


def marked_as(row, marks, number, at):
    """Tell whether this ROW has just the names that stand for these marks, and as its worth its place."""
    if number == 0 and row[-1] != at:
        return False
    return tuple(spelled(mark) for mark in marks) == row[:len(marks)]


def plain_joins(schema, hand, joins):
    """Tell whether these are JOINS, and whether nothing is left to be joined behind them."""
    rows = [(number, list(marks)) for number, marks in function("grown")(schema, hand)]
    one_row = list(range(len(rows)))

    def same(mark, mate):
        for _, marks in rows:
            marks[:] = [mark if part == mate else part for part in marks]

    for one, other, what in joins:
        number = rows[one][0]
        is_key = what in schema[number][2]
        few = what if is_key else what[0]
        if has(schema, number, rows[one][1], few) != has(schema, number, rows[other][1], few):
            return False, False
        for column in schema[number][0] if is_key else [what[1]]:
            same(*has(schema, number, rows[one][1], [column]), *has(schema, number, rows[other][1], [column]))
        if is_key:
            one_row = [one_row[one] if part == one_row[other] else part for part in one_row]
    for one, other in itertools.combinations(range(len(rows)), 2):
        (number, marks), (mate, others) = rows[one], rows[other]
        if number == mate:
            for few, what in schema[number][1]:
                if has(schema, number, marks, few) == has(schema, number, others, few):
                    if has(schema, number, marks, [what]) != has(schema, number, others, [what]):
                        return True, False
            for key in schema[number][2]:
                if has(schema, number, marks, key) == has(schema, number, others, key):
                    if marks != others or number == 0 and one_row[one] != one_row[other]:
                        return True, False
    return True, True


if __name__ == "__main__":
    unittest.main()
