"""Homes, PLANS and checks at home over drawn SCHEMAS, held against small TABLES and DEALINGS. [10] [11] [12]"""

import itertools
import random
import unittest

from helping import (
    WORDS, Case, amounts, breaks_part, drawn_question, function, has, in_house, kept_small_tables, plain_answer,
    plain_lots, plain_meetings, plainly_keeps, row_house, small_schema, small_tables, some_deal, some_dealing, some_of,
    some_schema, some_tables, standing,
)


class Drawn(Case):
    def setUp(self):
        self.chance = random.Random(11)

    def each(self, many, draw=small_schema):
        for _ in range(many):
            schema = draw(self.chance)
            question, deal = drawn_question(self.chance, schema), some_deal(self.chance, schema)
            if self.chance.random() < 0.5:
                deal = linked_deal(self.chance, schema, question)
            self.assertTrue(function("is_deal")(schema, deal), (schema, deal))
            yield schema, question, deal

    def papers(self, schema, deal, kept=True, limit=50, dealings=3):
        """Yield pairs of small TABLES and a DEALING."""
        if kept:
            every = kept_small_tables(self.chance, schema, limit=limit)
        else:
            every = small_tables(self.chance, schema, limit=limit)
        for tables in every:
            for _ in range(dealings):
                yield tables, some_dealing(self.chance, schema, deal)

    def is_kept_pair(self, schema, pair):
        self.assertIsInstance(pair, tuple)
        tables, dealing = pair
        self.assertTrue(function("is_tables")(schema, tables) and plainly_keeps(schema, tables), pair)
        self.assertTrue(function("is_dealing")(dealing), pair)
        return pair


def linked_deal(chance, schema, question):
    """Return a DEAL by COLUMNS that LINKS join, so that things are at home more often."""
    deal = [None] * len(schema)
    for one, other in question[1]:
        for column in (one, other):
            number = [at for at, sheet in enumerate(schema) if column in sheet[0]][0]
            if deal[number] is None and chance.random() < 0.8:
                deal[number] = (column,)
    if not question[1]:
        number = chance.randrange(len(schema))
        deal[number] = (chance.choice(schema[number][0]),)
    return tuple(deal)


class Deals(Drawn):
    def test_rows_houses_and_answers(self):
        for schema, question, deal in self.each(200, some_schema):
            tables = some_tables(self.chance, schema)
            dealing = some_dealing(self.chance, schema, deal, ("a", "b", "c"))
            self.assertTrue(function("is_dealing")(dealing), dealing)
            houses = [in_house(schema, tables, deal, dealing, house) for house in range(dealing[0])]
            for house, part in enumerate(houses):
                self.assertEqual(part, function("rows_at")(schema, tables, deal, dealing, house))
            wanted = [
                standing(schema, tables, question[0], meeting, deal, dealing)
                for meeting in plain_meetings(schema, tables, question)
            ]
            self.assertEqual(wanted, function("houses_of")(schema, tables, question, deal, dealing))
            for number, rows in enumerate(tables):
                for row in rows:
                    if deal[number] is not None:
                        home = function("house_of")(dealing, tuple(has(schema, number, row, deal[number])))
                        self.assertEqual(row_house(schema, deal, dealing, number, row), home)
            for word in WORDS:
                answers = [plain_answer(schema, part, question, word) for part in houses]
                self.assertEqual(answers, function("answers_at")(schema, tables, question, word, deal, dealing))
                together = together_by(word, answers)
                self.assertEqual(together, function("put_together")(word, tuple(answers)))

    def test_told_at_home(self):
        told = set()
        for schema, question, deal in self.each(120):
            pairs = list(self.papers(schema, deal))
            for word in WORDS:
                at_home = function("is_told_at_home")(schema, question, word, deal)
                paper = function("home_paper")(schema, question, word, deal)
                told.add((word, at_home))
                self.assertIs(at_home, paper is None)
                if at_home:
                    for tables, dealing in pairs:
                        self.assertTrue(told_here(schema, question, word, deal, tables, dealing),
                                        (schema, question, word, deal, tables, dealing))
                else:
                    tables, dealing = self.is_kept_pair(schema, paper)
                    self.assertFalse(told_here(schema, question, word, deal, tables, dealing))
                    self.assertTrue(function("is_home_paper")(schema, question, word, deal, paper))
                for tables, dealing in pairs[:10]:
                    wanted = not told_here(schema, question, word, deal, tables, dealing)
                    given = function("is_home_paper")(schema, question, word, deal, (tables, dealing))
                    self.assertIs(wanted, given)
        self.assertEqual(8, len(told))

    def test_groups_at_home(self):
        told = set()
        for schema, question, deal in self.each(200):
            at_home = function("groups_at_home")(schema, question, deal)
            paper = function("groups_paper")(schema, question, deal)
            told.add(at_home)
            self.assertIs(at_home, paper is None)
            if not at_home:
                tables, dealing = self.is_kept_pair(schema, paper)
                self.assertFalse(groups_here(schema, question, deal, tables, dealing))
            for tables, dealing in self.papers(schema, deal, limit=30):
                wanted = groups_here(schema, question, deal, tables, dealing)
                self.assertTrue(wanted or not at_home, (schema, question, deal, tables, dealing))
                given = function("is_groups_paper")(schema, question, deal, (tables, dealing))
                self.assertIs(not wanted, given)
        self.assertEqual({True, False}, told)

    def test_papers_that_do_not_keep_are_none(self):
        for schema, question, deal in self.each(60):
            for tables, dealing in self.papers(schema, deal, False, 10, 1):
                if not plainly_keeps(schema, tables):
                    self.assertIs(False, function("is_home_paper")(schema, question, "sum", deal, (tables, dealing)))
                    self.assertIs(False, function("is_groups_paper")(schema, question, deal, (tables, dealing)))

    def test_deals_at_home(self):
        for schema, question, _ in self.each(60):
            ways = [
                [None, *[(column,) for column in sheet[0]]] if number in question[0] else [None]
                for number, sheet in enumerate(schema)
            ]
            for word in ("sum", "greatest"):
                wanted = [
                    deal for deal in itertools.product(*ways)
                    if function("is_told_at_home")(schema, question, word, deal)
                ]
                self.assertEqual(wanted, function("deals_at_home")(schema, question, word))


def together_by(word, answers):
    found = {}
    for shown, amount in itertools.chain(*answers):
        found.setdefault(shown, []).append(amount)
    how = {"least": min, "greatest": max}.get(word, sum)
    return tuple((shown, how(found[shown])) for shown in sorted(found))


def told_here(schema, question, word, deal, tables, dealing):
    houses = [in_house(schema, tables, deal, dealing, house) for house in range(dealing[0])]
    answers = [plain_answer(schema, part, question, word) for part in houses]
    return together_by(word, answers) == plain_answer(schema, tables, question, word)


def groups_here(schema, question, deal, tables, dealing):
    found = {}
    for meeting, shown, _ in plain_lots(schema, tables, question):
        found.setdefault(shown, []).append(set(standing(schema, tables, question[0], meeting, deal, dealing)))
    return all(set.intersection(*found[shown]) for shown in found)


def some_tree(chance, numbers, at_home=False):
    """Return a TREE of these SHEETS."""
    kind = chance.random()
    if kind < 0.2:
        return ("fold", some_tree(chance, numbers, at_home))
    if kind < 0.5 and not at_home:
        return ("home", some_tree(chance, numbers, True))
    if len(numbers) == 1:
        return numbers[0]
    mine = some_of(chance, numbers, chance.randint(1, len(numbers) - 1))
    its = tuple(number for number in numbers if number not in mine)
    return ("join", some_tree(chance, mine, at_home), some_tree(chance, its, at_home))


def some_plan(chance, schema, question):
    free = [
        number for number in question[0] if number > 0 and not set(question[2]) & set(schema[number][0])
    ]
    out = some_of(chance, free) if chance.random() < 0.5 else ()
    return (out, some_tree(chance, tuple(number for number in question[0] if number not in out)))


def sheets_in(tree):
    return {tree} if isinstance(tree, int) else set().union(*[sheets_in(part) for part in tree[1:]])


def home_trees(tree):
    if isinstance(tree, int):
        return []
    return [tree[1]] if tree[0] == "home" else [home for part in tree[1:] for home in home_trees(part)]


def plain_brought(schema, question, deal, dealing, tables, plan):
    """Return the triples of a MEETING of the rest, what it shows with its worth, and how often it is brought."""
    rest = function("question_without")(schema, question, plan[0])
    found = []
    for meeting, shown, worth in plain_lots(schema, tables, rest):
        many = 1
        for home in home_trees(plan[1]):
            part = [(number, place) for number, place in zip(rest[0], meeting) if number in sheets_in(home)]
            chosen, places = zip(*part)
            many *= len(standing(schema, tables, chosen, places, deal, dealing))
        found.append((meeting, (shown, worth), many))
    return found


def plan_told(schema, question, word, deal, dealing, tables, plan):
    found = plain_brought(schema, question, deal, dealing, tables, plan)
    return amounts(word, [lot for _, lot, many in found for _ in range(many)])


class Plans(Drawn):
    def test_what_plans_are_and_bring(self):
        for schema, question, deal in self.each(250, some_schema):
            plan, tables = some_plan(self.chance, schema, question), some_tables(self.chance, schema)
            dealing = some_dealing(self.chance, schema, deal, ("a", "b", "c"))
            self.assertTrue(function("is_plan")(schema, question, plan), (schema, question, plan))
            homes = tuple(sorted(tuple(sorted(sheets_in(home))) for home in home_trees(plan[1])))
            self.assertEqual(homes, function("homes_of")(plan))
            many = len(sheets_in(plan[1]))
            alone = many - sum(len(home) for home in homes)
            self.assertEqual((many, len(homes) + alone), function("plan_size")(plan))
            found = plain_brought(schema, question, deal, dealing, tables, plan)
            wanted = tuple((meeting, many) for meeting, _, many in found)
            self.assertEqual(wanted, function("brought")(schema, question, deal, dealing, tables, plan))
            for word in WORDS:
                wanted = plan_told(schema, question, word, deal, dealing, tables, plan)
                given = function("plan_answer")(schema, question, word, deal, dealing, tables, plan)
                self.assertEqual(wanted, given)

    def test_handed_on(self):
        for schema, question, deal in self.each(250):
            plan, tables = some_plan(self.chance, schema, question), some_tables(self.chance, schema)
            dealing = some_dealing(self.chance, schema, deal, ("a", "b", "c"))
            _, links, groups = function("question_without")(schema, question, plan[0])
            many = 0
            for tree in home_trees(plan[1]):
                numbers = tuple(sorted(sheets_in(tree)))
                columns = [column for number in numbers for column in schema[number][0]]
                within = tuple(link for link in links if set(link) <= set(columns))
                wanted = {column for link in links if link not in within for column in link} | set(groups)
                wanted = [column for column in columns if column in wanted]
                for house in range(dealing[0]):
                    part = in_house(schema, tables, deal, dealing, house)
                    found = plain_meetings(schema, part, (numbers, within, ()))
                    if not isinstance(tree, int) and tree[0] == "fold":
                        places = {column: (number, schema[number][0].index(column))
                                  for number in numbers for column in schema[number][0]}
                        found = {
                            tuple(part[places[column][0]][meeting[numbers.index(places[column][0])]][places[column][1]]
                                  for column in wanted)
                            for meeting in found
                        }
                    many += len(found)
            self.assertEqual(many, function("handed_on")(schema, question, deal, dealing, tables, plan))

    def test_right_and_wrong(self):
        told = set()
        for schema, question, deal in self.each(150):
            plan, pairs = some_plan(self.chance, schema, question), list(self.papers(schema, deal, limit=40))
            for word in WORDS:
                right = function("is_right")(schema, question, word, deal, plan)
                paper = function("a_wrong")(schema, question, word, deal, plan)
                told.add((word, right, bool(plan[0])))
                self.assertIs(right, paper is None)
                if right:
                    for tables, dealing in pairs:
                        wanted = plain_answer(schema, tables, question, word)
                        given = plan_told(schema, question, word, deal, dealing, tables, plan)
                        self.assertEqual(wanted, given, (schema, question, word, deal, plan, tables, dealing))
                else:
                    tables, dealing = self.is_kept_pair(schema, paper)
                    wanted = plain_answer(schema, tables, question, word)
                    self.assertNotEqual(wanted, plan_told(schema, question, word, deal, dealing, tables, plan))
                    self.assertTrue(function("is_wrong")(schema, question, word, deal, plan, paper))
                for tables, dealing in pairs[:10]:
                    wanted = plain_answer(schema, tables, question, word)
                    unlike = wanted != plan_told(schema, question, word, deal, dealing, tables, plan)
                    self.assertIs(unlike, function("is_wrong")(
                        schema, question, word, deal, plan, (tables, dealing)))
        self.assertGreaterEqual(len(told), 15)

    def test_is_wrong_of_tables_that_do_not_keep(self):
        for schema, question, deal in self.each(60):
            plan = some_plan(self.chance, schema, question)
            for tables, dealing in self.papers(schema, deal, False, 10, 1):
                if not plainly_keeps(schema, tables):
                    self.assertIs(False, function("is_wrong")(schema, question, "sum", deal, plan, (tables, dealing)))

    def test_right_homes(self):
        for schema, question, deal in self.each(100):
            for word in WORDS:
                wanted = []
                for many in range(1, len(question[0]) + 1):
                    for home in itertools.combinations(question[0], many):
                        tree = ("home", joined(home))
                        for number in question[0]:
                            tree = tree if number in home else ("join", number, tree)
                        if function("is_right")(schema, question, word, deal, ((), tree)):
                            wanted.append(home)
                self.assertEqual(sorted(wanted), function("right_homes")(schema, question, word, deal))

    def test_least_plans(self):
        sizes = set()
        for schema, question, deal in self.each(80):
            for word in WORDS:
                size = function("least_size")(schema, question, word, deal)
                plan = function("a_least_plan")(schema, question, word, deal)
                sizes.add(size)
                self.assertTrue(function("is_plan")(schema, question, plan), plan)
                self.assertTrue(function("is_right")(schema, question, word, deal, plan))
                self.assertEqual(size, function("plan_size")(plan))
                self.assertTrue(function("is_least_plan")(schema, question, word, deal, plan))
                every = [other for other in all_plans(schema, question)
                         if function("is_right")(schema, question, word, deal, other)]
                self.assertEqual(size, min(function("plan_size")(other) for other in every))
                other = self.chance.choice(every)
                least = function("plan_size")(other) == size
                self.assertIs(least, function("is_least_plan")(schema, question, word, deal, other))
        self.assertGreater(len(sizes), 3)


def joined(trees):
    tree = trees[0]
    for mate in trees[1:]:
        tree = ("join", mate, tree)
    return tree


def all_plans(schema, question):
    """Yield for all ways to leave SHEETS out, and for all homes, a PLAN."""
    free = [
        number for number in question[0] if number > 0 and not set(question[2]) & set(schema[number][0])
    ]
    for many in range(len(free) + 1):
        for out in itertools.combinations(free, many):
            left = [number for number in question[0] if number not in out]
            # Each SHEET has the number of its home, or 0 for none.
            for homes in itertools.product(range(len(left) + 1), repeat=len(left)):
                parts = [number for number, home in zip(left, homes) if home == 0]
                for home in sorted(set(homes) - {0}):
                    parts.append(("home", joined([number for number, mate in zip(left, homes) if mate == home])))
                yield (out, joined(parts))


def plainly_unseen(schema, tables, deal, dealing, number, part):
    """Tell whether all HOUSES keep, though two ROWS stand against a RULE or a KEY."""
    if not any(breaks_part(schema, number, part, *pair) for pair in itertools.combinations(tables[number], 2)):
        return False
    return all(plainly_keeps(schema, in_house(schema, tables, deal, dealing, house)) for house in range(dealing[0]))


def plainly_alarmed(schema, tables, deal, dealing, number, other):
    """Tell whether some HOUSE has a ROW without that to which it refers."""
    _, columns, key = [reference for reference in schema[number][3] if reference[0] == other][0]
    for house in range(dealing[0]):
        part = in_house(schema, tables, deal, dealing, house)
        there = [has(schema, other, mate, key) for mate in part[other]]
        if any(has(schema, number, row, columns) not in there for row in part[number]):
            return True
    return False


class Checks(Drawn):
    def test_houses_keep(self):
        told = set()
        for schema, _, deal in self.each(100):
            for tables, dealing in self.papers(schema, deal, False, 20, 2):
                wanted = tuple(
                    plainly_keeps(schema, in_house(schema, tables, deal, dealing, house))
                    for house in range(dealing[0])
                )
                self.assertEqual(wanted, function("houses_keep")(schema, tables, deal, dealing))
                told.add((all(wanted), plainly_keeps(schema, tables)))
        self.assertEqual(4, len(told))

    def test_enough(self):
        told = set()
        for schema, _, deal in self.each(250):
            parts = [(number, part, 1) for number, sheet in enumerate(schema) for part in sheet[1]]
            parts += [(number, part, 2) for number, sheet in enumerate(schema) for part in sheet[2]]
            blind = {1: [], 2: []}
            pairs = list(self.papers(schema, deal, False, 60, 2))
            kept = [pair for pair in pairs if all(function("houses_keep")(schema, pair[0], deal, pair[1]))]
            for number, part, kind in parts:
                enough = function("is_enough")(schema, deal, number, part)
                spot = function("a_blind_spot")(schema, deal, number, part)
                told.add((kind, enough, deal[number] is None))
                self.assertIs(enough, spot is None)
                if not enough:
                    blind[kind].append((number, part))
                    tables, dealing = spot
                    self.assertTrue(function("is_tables")(schema, tables) and function("is_dealing")(dealing), spot)
                    self.assertTrue(plainly_unseen(schema, tables, deal, dealing, number, part),
                                    (schema, deal, number, part, spot))
                    self.assertTrue(function("is_blind_spot")(schema, deal, number, part, spot))
                for tables, dealing in (*kept, *pairs[:5]):
                    unseen = plainly_unseen(schema, tables, deal, dealing, number, part)
                    self.assertFalse(enough and unseen, (schema, deal, number, part, tables, dealing))
                    given = function("is_blind_spot")(schema, deal, number, part, (tables, dealing))
                    self.assertIs(unseen, given)
            self.assertEqual(sorted(blind[1]), function("blind_rules")(schema, deal))
            self.assertEqual(sorted(blind[2]), function("blind_keys")(schema, deal))
        self.assertEqual(6, len(told), told)

    def test_if_all_houses_keep_all_references_are_kept(self):
        for schema, _, deal in self.each(60):
            for tables, dealing in self.papers(schema, deal, False, 40, 2):
                houses = function("houses_keep")(schema, tables, deal, dealing)
                if all(houses):
                    self.assertEqual((), function("broken_references")(schema, tables))
                if function("keeps")(schema, tables):
                    for house in range(dealing[0]):
                        part = function("rows_at")(schema, tables, deal, dealing, house)
                        self.assertEqual((), function("broken_rules")(schema, part))
                        self.assertEqual((), function("broken_keys")(schema, part))

    def test_fair(self):
        told = set()
        for schema, _, deal in self.each(250):
            unfair = []
            pairs = [(number, reference[0]) for number, sheet in enumerate(schema) for reference in sheet[3]]
            if not pairs:
                continue
            papers = list(self.papers(schema, deal, True, 30, 3))
            for number, other in pairs:
                fair = function("is_fair")(schema, deal, number, other)
                alarm = function("a_false_alarm")(schema, deal, number, other)
                told.add((fair, deal[number] is None, deal[other] is None))
                self.assertIs(fair, alarm is None)
                if not fair:
                    unfair.append((number, other))
                    tables, dealing = self.is_kept_pair(schema, alarm)
                    self.assertTrue(plainly_alarmed(schema, tables, deal, dealing, number, other))
                for tables, dealing in papers:
                    alarmed = plainly_alarmed(schema, tables, deal, dealing, number, other)
                    self.assertFalse(fair and alarmed, (schema, deal, number, other, tables, dealing))
                    given = function("is_false_alarm")(schema, deal, number, other, (tables, dealing))
                    self.assertIs(alarmed, given)
            self.assertEqual(sorted(unfair), function("unfair_references")(schema, deal))
        self.assertEqual(5, len(told), told)

    def test_good_deals(self):
        found = 0
        for schema, _, deal in self.each(60):
            for number in range(len(schema)):
                columns, wanted = schema[number][0], []
                for many in range(len(columns) + 1):
                    for some in itertools.permutations(columns, many):
                        other = (*deal[:number], some, *deal[number + 1:])
                        told = [function(name)(schema, other) for name in (
                            "blind_rules", "blind_keys", "unfair_references")]
                        if told == [[], [], []]:
                            wanted.append(some)
                self.assertEqual(sorted(wanted), function("good_deals")(schema, deal, number))
                found += len(wanted)
        self.assertGreater(found, 20)


if __name__ == "__main__":
    unittest.main()
