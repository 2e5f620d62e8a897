"""What the tests share: the names of all arguments, calls made in each way that the document allows,
and what the document tells, told once more in plain words, over drawn SCHEMAS and small TABLES.
"""

import importlib
import itertools
import unittest

INTERFACE = {
    "schemas": {
        "is_schema": ("thing",),
        "is_question": ("schema", "thing"),
        "is_deal": ("schema", "thing"),
        "columns_of": ("schema",),
        "sheet_of": ("schema", "column"),
        "with_rule": ("schema", "rule"),
        "without_rule": ("schema", "rule"),
        "with_key": ("schema", "number", "key"),
        "without_key": ("schema", "number", "key"),
        "with_reference": ("schema", "number", "reference"),
        "without_reference": ("schema", "number", "other"),
        "with_sheet": ("schema", "sheet"),
        "without_sheet": ("schema", "number"),
        "renamed": ("schema", "pairs"),
        "closed": ("schema", "number", "some"),
        "referred": ("schema", "number"),
        "referring": ("schema", "number"),
    },
    "tables": {
        "is_row": ("schema", "number", "thing"),
        "is_tables": ("schema", "thing"),
        "keeps": ("schema", "tables"),
        "broken_rules": ("schema", "tables"),
        "broken_keys": ("schema", "tables"),
        "broken_references": ("schema", "tables"),
        "rows_with": ("schema", "tables", "number", "columns", "names"),
        "led_to": ("schema", "tables", "number", "row"),
        "leading_to": ("schema", "tables", "number", "row"),
        "is_deed": ("schema", "thing"),
        "after": ("schema", "tables", "deed"),
        "after_all": ("schema", "tables", "deeds"),
        "keeps_after": ("schema", "tables", "deed"),
        "deeds_to": ("schema", "one", "other"),
        "meetings": ("schema", "tables", "question"),
        "shown": ("schema", "tables", "question", "meeting"),
        "answer": ("schema", "tables", "question", "word"),
    },
    "unfold": {
        "is_hand": ("schema", "thing"),
        "grown": ("schema", "hand"),
        "picture": ("schema", "hand"),
        "places_in": ("schema", "hand"),
        "tables_of": ("schema", "hand"),
        "are_joins": ("schema", "hand", "thing"),
        "all_joins": ("schema", "hand"),
        "are_all_joins": ("schema", "hand", "thing"),
        "ways_in": ("schema", "hand", "question"),
        "hand_of_row": ("schema", "number"),
        "hand_of_meeting": ("schema", "question"),
        "hand_of_two": ("schema", "question", "some"),
        "is_equal": ("schema", "question", "column", "other"),
        "equal_columns": ("schema", "question"),
        "settled": ("schema", "question", "some"),
        "settled_rows": ("schema", "question", "some"),
        "apart": ("schema", "question", "some"),
    },
    "fans": {
        "ways_on": ("schema", "question", "tables", "some"),
        "fan": ("schema", "question", "some"),
        "fans": ("schema", "question"),
        "fan_paper": ("schema", "question", "some", "end"),
        "is_fan_paper": ("schema", "question", "some", "end", "thing"),
        "told_by": ("schema", "question", "some"),
        "alike_columns": ("schema", "question"),
        "fewest_telling": ("schema", "question"),
    },
    "questions": {
        "are_alike": ("schema", "one", "other", "word"),
        "parting_tables": ("schema", "one", "other", "word"),
        "is_parting": ("schema", "one", "other", "word", "thing"),
        "full_links": ("schema", "question"),
        "needless_links": ("schema", "question"),
        "question_without": ("schema", "question", "some"),
        "can_leave_out": ("schema", "question", "some", "word"),
        "sets_to_leave_out": ("schema", "question", "word"),
        "most_left_out": ("schema", "question", "word"),
        "least_question": ("schema", "question", "word"),
    },
    "felt": {
        "are_alike_but": ("schema", "one", "other", "some"),
        "fixed_columns": ("schema", "some"),
        "feels": ("schema", "question", "some", "word"),
        "parting_pair": ("schema", "question", "some", "word"),
        "is_parting_pair": ("schema", "question", "some", "word", "thing"),
        "felt_columns": ("schema", "question", "word"),
        "felt_pairs": ("schema", "question", "word"),
    },
    "plans": {
        "is_plan": ("schema", "question", "thing"),
        "homes_of": ("plan",),
        "brought": ("schema", "question", "deal", "dealing", "tables", "plan"),
        "plan_answer": ("schema", "question", "word", "deal", "dealing", "tables", "plan"),
        "handed_on": ("schema", "question", "deal", "dealing", "tables", "plan"),
        "is_right": ("schema", "question", "word", "deal", "plan"),
        "a_wrong": ("schema", "question", "word", "deal", "plan"),
        "is_wrong": ("schema", "question", "word", "deal", "plan", "thing"),
        "right_homes": ("schema", "question", "word", "deal"),
        "plan_size": ("plan",),
        "least_size": ("schema", "question", "word", "deal"),
        "a_least_plan": ("schema", "question", "word", "deal"),
        "is_least_plan": ("schema", "question", "word", "deal", "thing"),
    },
    "deals": {
        "is_dealing": ("thing",),
        "house_of": ("dealing", "names"),
        "rows_at": ("schema", "tables", "deal", "dealing", "house"),
        "houses_of": ("schema", "tables", "question", "deal", "dealing"),
        "answers_at": ("schema", "tables", "question", "word", "deal", "dealing"),
        "put_together": ("word", "answers"),
        "is_told_at_home": ("schema", "question", "word", "deal"),
        "groups_at_home": ("schema", "question", "deal"),
        "home_paper": ("schema", "question", "word", "deal"),
        "is_home_paper": ("schema", "question", "word", "deal", "thing"),
        "groups_paper": ("schema", "question", "deal"),
        "is_groups_paper": ("schema", "question", "deal", "thing"),
        "deals_at_home": ("schema", "question", "word"),
    },
    "checks": {
        "houses_keep": ("schema", "tables", "deal", "dealing"),
        "is_enough": ("schema", "deal", "number", "part"),
        "blind_rules": ("schema", "deal"),
        "blind_keys": ("schema", "deal"),
        "a_blind_spot": ("schema", "deal", "number", "part"),
        "is_blind_spot": ("schema", "deal", "number", "part", "thing"),
        "is_fair": ("schema", "deal", "number", "other"),
        "unfair_references": ("schema", "deal"),
        "a_false_alarm": ("schema", "deal", "number", "other"),
        "is_false_alarm": ("schema", "deal", "number", "other", "thing"),
        "good_deals": ("schema", "deal", "number"),
    },
    "commits": {
        "kinds": ("schema",),
        "is_let_now": ("schema", "tables", "one"),
        "at_once": ("schema", "tables", "deeds"),
        "breaking_pairs": ("schema", "tables", "deeds"),
        "are_apart": ("schema", "deal", "dealing", "one", "other"),
        "is_calm": ("schema", "deal", "kind", "mate"),
        "waits": ("schema", "deal"),
        "a_clash": ("schema", "deal", "kind", "mate"),
        "is_clash": ("schema", "deal", "kind", "mate", "thing"),
    },
    "kept": {
        "lots_of": ("schema", "tables", "question", "deed"),
        "is_unmoved": ("schema", "question", "word", "kind"),
        "unmoved_kinds": ("schema", "question", "word"),
        "moved_paper": ("schema", "question", "word", "kind"),
        "is_moved_paper": ("schema", "question", "word", "kind", "thing"),
        "is_kept": ("schema", "question", "word", "kind", "beside"),
        "kept_kinds": ("schema", "question", "word", "beside"),
        "kept_paper": ("schema", "question", "word", "kind", "beside"),
        "is_kept_paper": ("schema", "question", "word", "kind", "beside", "thing"),
        "is_by_row": ("schema", "question", "word", "kind"),
        "row_paper": ("schema", "question", "word", "kind"),
        "is_row_paper": ("schema", "question", "word", "kind", "thing"),
        "renewed": ("schema", "question", "word", "kind", "kept", "numbers", "lots"),
        "row_answer": ("schema", "question", "word", "deed"),
    },
    "joins": {
        "changed_by": ("schema", "first", "one"),
        "are_changed_apart": ("schema", "first", "one", "other"),
        "merged": ("schema", "first", "one", "other"),
        "merged_all": ("schema", "first", "copies"),
        "stands_against": ("schema", "kind", "rival"),
        "kinds_beside": ("schema", "mine"),
        "merges_keep": ("schema", "mine", "its"),
        "merge_paper": ("schema", "mine", "its"),
        "is_merge_paper": ("schema", "mine", "its", "thing"),
        "do_add": ("schema", "question", "first", "one", "other"),
        "adds_up": ("schema", "question", "mine", "its"),
        "adds_paper": ("schema", "question", "mine", "its"),
        "is_adds_paper": ("schema", "question", "mine", "its", "thing"),
    },
    "judge": {
        "is_promise": ("schema", "thing"),
        "is_paper": ("schema", "promise", "thing"),
        "holds": ("schema", "promise"),
        "a_paper": ("schema", "promise"),
        "pieces": ("schema",),
        "without_piece": ("schema", "piece"),
        "what_falls": ("schema", "piece", "promises"),
        "stands_on": ("schema", "promise"),
        "fewest_pieces": ("schema", "promise"),
    },
    "texts": {
        "schema_text": ("schema",),
        "tables_text": ("tables",),
        "question_text": ("question",),
        "deal_text": ("deal",),
        "dealing_text": ("dealing",),
        "deeds_text": ("deeds",),
        "read_schema": ("text",),
        "read_tables": ("schema", "text"),
        "read_question": ("schema", "text"),
        "read_deal": ("schema", "text"),
        "read_dealing": ("text",),
        "read_deeds": ("schema", "text"),
    },
    "desk": {
        "is_request": ("schema", "thing"),
        "replies": ("schema", "deal", "houses", "text"),
    },
}

# The methods of a Board, with their arguments.
BOARD = {
    "put": ("number", "row"),
    "take": ("number", "row"),
    "commit": ("deeds",),
    "merge": ("one", "other"),
    "send": ("names", "house"),
    "part": ("deal",),
    "keep": ("name", "question", "word"),
    "drop": ("name",),
    "undo": (),
    "twin": (),
    "schema": (),
    "deal": (),
    "dealing": (),
    "tables": (),
    "kept": (),
    "waits": (),
    "house": ("number",),
    "astray": (),
    "answer": ("name",),
    "by_houses": ("name",),
    "right": (),
    "at_home": (),
    "changed": (),
}

MODULE_OF = {name: module for module, names in INTERFACE.items() for name in names}

ORDERS = (("cust", "item", "oid"), (), (("oid",),), ((1, ("cust",), ("name",)), (2, ("item",), ("good",))))
BUYERS = (("city", "land", "name"), ((("city",), "land"),), (("name",),), ())
GOODS = (("good", "kind"), (), (("good",),), ())
SHOP = (ORDERS, BUYERS, GOODS)

# Four SHEETS in a chain with a short cut; a KEY of two, a KEY (), RULES from () and from themselves.
CHAIN = (
    (("a", "b"), ((("a",), "a"), (("a",), "b")), (), ((1, ("b", "a"), ("d", "e")), (3, (), ()))),
    (("c", "d", "e"), (((), "c"),), (("c",), ("d", "e")), ((2, ("c",), ("f",)),)),
    (("f", "g"), (), (("f",), ("g",)), ((3, ("g",), ("h",)),)),
    (("h",), (), ((), ("h",)), ()),
)


def function(name):
    """Return the function of the interface with this name."""
    return getattr(importlib.import_module("rowsathome." + MODULE_OF[name]), name)


def error(name):
    """Return the error class with this name."""
    return getattr(importlib.import_module("rowsathome.errors"), name)


def same(value):
    return value


def listed(value):
    """Return value with a list in the place of each tuple."""
    return [listed(part) for part in value] if isinstance(value, (list, tuple)) else value


def outside_listed(value):
    """Return value with lists at every other depth, the outermost one among them."""
    return [inside_listed(part) for part in value] if isinstance(value, (list, tuple)) else value


def inside_listed(value):
    """Return value with lists at every other depth, tuples outermost."""
    return tuple(outside_listed(part) for part in value) if isinstance(value, (list, tuple)) else value


class Case(unittest.TestCase):
    """A test whose calls are made in all ways: by position, by names, with lists for tuples."""

    maxDiff = None

    def ways(self, name, arguments):
        """Yield, for each way, what makes the call; afterwards look whether the arguments are as they were."""
        names = INTERFACE[MODULE_OF[name]][name]
        self.assertEqual(len(names), len(arguments))
        call = function(name)
        for change in (same, listed, outside_listed, inside_listed):
            given = [part if key == "thing" else change(part) for key, part in zip(names, arguments)]
            before = repr(given)
            yield lambda: call(*given)
            self.assertEqual(before, repr(given), f"{name} changed its arguments")
            yield lambda: call(**dict(reversed(list(zip(names, given)))))
            self.assertEqual(before, repr(given), f"{name} changed its arguments")

    def gives(self, expected, name, *arguments):
        """Look whether the function returns just this: repr tells tuples from lists and True from 1."""
        for call in self.ways(name, arguments):
            self.assertEqual(repr(expected), repr(call()), f"{name}{arguments!r}")

    def refuses(self, wanted, kept, name, *arguments):
        """Look whether the function raises just this error, with these values in its attributes."""
        for call in self.ways(name, arguments):
            with self.assertRaises((LookupError, ValueError), msg=f"{name}{arguments!r}") as caught:
                call()
            self.assertIs(error(wanted), type(caught.exception), f"{name}{arguments!r}: {caught.exception!r}")
            for key, value in kept.items():
                self.assertEqual(repr(value), repr(getattr(caught.exception, key)))

    def is_such(self, name, *ahead, things):
        for thing in things:
            self.gives(True, name, *ahead, thing)

    def is_not_such(self, name, *ahead, things):
        for thing in (*things, *STRANGE):
            self.gives(False, name, *ahead, thing)


def nested(depth):
    """Return tuples in tuples, as deep as thing may be."""
    return () if depth == 1 else (nested(depth - 1),)


STRANGE = (
    None, True, False, 0, 1, -1, 10 ** 40, "", "a", "put", [], [[]], [()], ([],), (None,), (True,), (0,), ("a",),
    nested(12), tuple(range(500)), ("a",) * 500, ((),) * 500, ((), (), ()) * 2, ("a", "b", "c", "d"),
    [None, True, ("a", [1, (2, "z")])],
)


NAMES = ("a", "b", "c")
COLUMNS = (("k", "l", "m"), ("p", "q"), ("f", "g"), ("x",))


def some_of(chance, members, many=None):
    """Return an ascending tuple of some members."""
    many = chance.randint(0, len(members)) if many is None else min(many, len(members))
    return tuple(sorted(chance.sample(list(members), many)))


def some_schema(chance):
    """Return a SCHEMA of one to four SHEETS, its names dealt anew."""
    pool = chance.sample("abcdefghijklmnopqrstuvwxyz", 8)
    sheets = []
    for names in COLUMNS[:chance.randint(1, 4)]:
        columns = tuple(sorted(pool.pop() for _ in names))
        rules = {(some_of(chance, columns), chance.choice(columns)) for _ in range(chance.randint(0, 2))}
        keys = {some_of(chance, columns) for _ in range(chance.randint(0, 2))}
        sheets.append((columns, tuple(sorted(rules)), tuple(sorted(keys))))
    return tuple((*sheet, some_references(chance, sheets, number)) for number, sheet in enumerate(sheets))


def some_references(chance, sheets, number):
    columns, references = sheets[number][0], []
    for other in range(number + 1, len(sheets)):
        keys = [key for key in sheets[other][2] if len(key) <= len(columns)]
        if keys and chance.random() < 0.6:
            key = chance.choice(keys)
            references.append((other, tuple(chance.sample(columns, len(key))), key))
    return tuple(references)


def some_row(chance, schema, number):
    names = tuple(chance.choice(NAMES) for _ in schema[number][0])
    return (*names, chance.randint(-3, 3)) if number == 0 else names


def some_tables(chance, schema):
    rows = [{some_row(chance, schema, number) for _ in range(chance.randint(0, 4))} for number in range(len(schema))]
    return tuple(tuple(sorted(part)) for part in rows)


def kept_tables(chance, schema):
    """Return TABLES that keep the SCHEMA: of some TABLES, what is left behind taking what breaks."""
    tables = some_tables(chance, schema)
    while not plainly_keeps(schema, tables):
        number = chance.choice([number for number, rows in enumerate(tables) if rows])
        row = chance.choice(tables[number])
        tables = function("after")(schema, tables, ("take", number, row))
    return tables


def some_question(chance, schema):
    chosen = (0, *some_of(chance, range(1, len(schema))))
    columns = sorted(column for number in chosen for column in schema[number][0])
    pairs = [pair for pair in itertools.combinations(columns, 2) if home(schema, pair[0]) != home(schema, pair[1])]
    return (chosen, some_of(chance, pairs, chance.randint(0, 2)), some_of(chance, columns, chance.randint(0, 2)))


def home(schema, column):
    return [number for number, sheet in enumerate(schema) if column in sheet[0]][0]


def has(schema, number, row, some):
    """Return the list of what this ROW, or its marks, has in some COLUMNS."""
    return [row[schema[number][0].index(column)] for column in some]


def plainly_broken(schema, tables):
    """Return the three sets of what is broken, as [3] tells it."""
    rules, keys, references = set(), set(), set()
    for number, (_, own_rules, own_keys, own_references) in enumerate(schema):
        for row, mate in itertools.permutations(tables[number], 2):
            for few, one in own_rules:
                if has(schema, number, row, few) == has(schema, number, mate, few):
                    if has(schema, number, row, [one]) != has(schema, number, mate, [one]):
                        rules.add((few, one))
            for key in own_keys:
                if has(schema, number, row, key) == has(schema, number, mate, key):
                    keys.add((number, key))
        for row, (other, columns, key) in itertools.product(tables[number], own_references):
            wanted = has(schema, number, row, columns)
            if wanted not in [has(schema, other, mate, key) for mate in tables[other]]:
                references.add((number, other))
    return tuple(sorted(rules)), tuple(sorted(keys)), tuple(sorted(references))


def plainly_keeps(schema, tables):
    return plainly_broken(schema, tables) == ((), (), ())


def refers(schema, tables, pair, mate):
    """Tell whether the ROW of pair refers to that of mate, each with the number of its SHEET."""
    for other, columns, key in schema[pair[0]][3]:
        if other == mate[0] and has(schema, *pair, columns) == has(schema, *mate, key):
            return True
    return False


def steps(members, leads):
    """Return a dict that has for each member the set of those to which it leads, step by step."""
    found = {member: {mate for mate in members if leads(member, mate)} for member in members}
    for _ in members:
        for member in members:
            found[member] |= {far for mate in found[member] for far in found[mate]}
    return found


def met(schema, tables, chosen, meeting):
    return {
        column: name
        for number, place in zip(chosen, meeting)
        for column, name in zip(schema[number][0], tables[number][place])
    }


WORDS = ("sum", "number", "least", "greatest")


def plain_meetings(schema, tables, question):
    """Return the list of the MEETINGS, as [3] tells them, of any SHEETS."""
    chosen, links, _ = question
    found = []
    for meeting in itertools.product(*[range(len(tables[number])) for number in chosen]):
        names = met(schema, tables, chosen, meeting)
        if all(names[one] == names[other] for one, other in links):
            found.append(meeting)
    return found


def plain_lots(schema, tables, question):
    """Return for each MEETING the triple of itself, what it shows and its worth."""
    lots = []
    for meeting in plain_meetings(schema, tables, question):
        names = met(schema, tables, question[0], meeting)
        lots.append((meeting, tuple(names[column] for column in question[2]), tables[0][meeting[0]][-1]))
    return lots


def plain_answer(schema, tables, question, word):
    return amounts(word, [(shown, worth) for _, shown, worth in plain_lots(schema, tables, question)])


def amounts(word, lots):
    """Return the answer by this WORD of pairs of what is shown and a worth."""
    worths = {}
    for shown, worth in lots:
        worths.setdefault(shown, []).append(worth)
    how = {"sum": sum, "number": len, "least": min, "greatest": max}[word]
    return tuple((shown, how(worths[shown])) for shown in sorted(worths))


SMALL = ((2,), (3,), (2, 2), (3, 2), (1, 2), (2, 1, 1), (2, 2, 1), (1, 2, 2))


def small_schema(chance):
    """Return a SCHEMA of one to three SHEETS of few COLUMNS, mostly with REFERENCES."""
    widths = chance.choice(SMALL)
    letters, sheets = chance.sample("abcdefghijklmnopqrstuvwxyz", 8), []
    for number, width in enumerate(widths):
        columns = tuple(sorted(letters.pop() for _ in range(width)))
        rules = {(some_of(chance, columns), chance.choice(columns)) for _ in range(chance.choice((0, 0, 1, 2)))}
        keys = {some_of(chance, columns) for _ in range(chance.choice((0, 1, 1, 2)))}
        if number > 0 and chance.random() < 0.6:
            keys = {some_of(chance, columns, 1)}
        sheets.append((columns, tuple(sorted(rules)), tuple(sorted(keys))))
    return tuple((*sheet, some_references(chance, sheets, number)) for number, sheet in enumerate(sheets))


def row_sets(schema, number, names, worths, most):
    """Return the list of all sets of at most so many ROWS of this SHEET, made of these names and worths."""
    rows = [tuple(row) for row in itertools.product(names, repeat=len(schema[number][0]))]
    if number == 0:
        rows = [(*row, worth) for row in rows for worth in worths]
    return [part for many in range(most + 1) for part in itertools.combinations(sorted(rows), many)]


def small_tables(chance, schema, wanted=lambda tables: True, limit=250, names=("a", "b"), worths=(1, -2), most=3):
    """Return TABLES of these names that are wanted and keep all RULES and KEYS, or as many of them as the limit."""
    alone = []
    for number in range(len(schema)):
        sets = row_sets(schema, number, names, worths, most)
        chance.shuffle(sets)
        alone.append(sets[:400])
    count = 1
    for sets in alone:
        count *= len(sets)
    if count < 3000:
        every = list(itertools.product(*alone))
        chance.shuffle(every)
    else:
        every = [tuple(chance.choice(sets) for sets in alone) for _ in range(3000)]
    found = []
    for tables in every:
        if wanted(tables):
            found.append(tables)
        if len(found) == limit:
            break
    return found


def kept_small_tables(chance, schema, **how):
    """Return small TABLES that keep the SCHEMA."""
    return small_tables(chance, schema, lambda tables: plainly_keeps(schema, tables), **how)


def drawn_question(chance, schema):
    """Return a QUESTION with LINKS that REFERENCES follow, more often than not."""
    chosen, links, groups = some_question(chance, schema)
    follow = []
    for number in chosen:
        for other, columns, key in schema[number][3]:
            if other in chosen and chance.random() < 0.6:
                follow.extend(tuple(sorted(pair)) for pair in zip(columns, key))
    links = tuple(sorted({*follow, *(links if chance.random() < 0.5 else ())}))
    return (chosen, links, groups)


def some_deal(chance, schema):
    """Return a DEAL: copied, by (), by some COLUMNS, one maybe several times."""
    deal = []
    for columns, _, _, _ in schema:
        if chance.random() < 0.35:
            deal.append(None)
        else:
            deal.append(tuple(chance.choice(columns) for _ in range(chance.choice((0, 1, 1, 1, 2)))))
    return tuple(deal)


def some_dealing(chance, schema, deal, names=("a", "b")):
    """Return a DEALING of one to three HOUSES that sends some of the names by which ROWS go."""
    lengths = {len(part) for part in deal if part is not None}
    every = [part for many in sorted(lengths) for part in itertools.product(names, repeat=many)]
    houses = chance.randint(1, 3)
    told = [part for part in every if chance.random() < 0.7]
    return (houses, tuple((part, chance.randrange(houses)) for part in sorted(told)))


def row_house(schema, deal, dealing, number, row):
    """Return the HOUSE of this ROW, or None if it is in all."""
    if deal[number] is None:
        return None
    names = tuple(has(schema, number, row, deal[number]))
    found = [house for told, house in dealing[1] if told == names]
    return found[0] if found else 0


def in_house(schema, tables, deal, dealing, house):
    """Return the TABLES of the ROWS in this HOUSE, as [3] tells them."""
    return tuple(
        tuple(row for row in rows if row_house(schema, deal, dealing, number, row) in (None, house))
        for number, rows in enumerate(tables)
    )


def standing(schema, tables, chosen, meeting, deal, dealing):
    """Return the set of the HOUSES in which these ROWS of the chosen SHEETS are."""
    rows = [(number, tables[number][place]) for number, place in zip(chosen, meeting)]
    homes = [row_house(schema, deal, dealing, number, row) for number, row in rows]
    return tuple(house for house in range(dealing[0]) if all(home in (None, house) for home in homes))


def breaks_part(schema, number, part, one, other):
    """Tell whether these two ROWS of this SHEET stand against a RULE or a KEY."""
    is_rule = len(part) == 2 and isinstance(part[0], tuple)
    few = part[0] if is_rule else part
    if has(schema, number, one, few) != has(schema, number, other, few):
        return False
    return has(schema, number, one, [part[1]]) != has(schema, number, other, [part[1]]) if is_rule else one != other


def done(tables, deeds):
    """Return the TABLES behind these DEEDS, done at once."""
    behind = [set(rows) for rows in tables]
    for what, number, row in deeds:
        if what == "take":
            behind[number].discard(row)
    for what, number, row in deeds:
        if what == "put":
            behind[number].add(row)
    return tuple(tuple(sorted(rows)) for rows in behind)


def goes(schema, tables, deed):
    """Tell whether this DEED goes in these TABLES, that may keep the SCHEMA or not."""
    behind = done(tables, (deed,))
    return behind != tables and plainly_keeps(schema, tables) and plainly_keeps(schema, behind)


def all_kinds(schema):
    return [(what, number) for what in ("put", "take") for number in range(len(schema))]


def every_deed(schema, kind, names=("a", "b"), worths=(1, -2)):
    """Return the list of all DEEDS of this KIND with these names and worths."""
    what, number = kind
    rows = [tuple(row) for row in itertools.product(names, repeat=len(schema[number][0]))]
    if number == 0:
        rows = [(*row, worth) for row in rows for worth in worths]
    return [(what, number, row) for row in rows]


def spelled(mark):
    """Return the NAME that stands for a mark: a, b, .., z, aa, ab, .."""
    name = ""
    while mark >= 0:
        name, mark = chr(97 + mark % 26) + name, mark // 26 - 1
    return name


def marked(rows):
    """Return the ROWS with the numbers 0, 1, 2, .. for what they have, as it comes first."""
    order = []
    for _, names in rows:
        order.extend(name for name in names if name not in order)
    return tuple((number, tuple(order.index(name) for name in names)) for number, names in rows)


class Plain:
    """A HAND unfolded in the plain words of the document: names are replaced everywhere, ROWS become one."""

    def __init__(self, schema, hand):
        self.schema = schema
        self.rows = [(number, list(names)) for number, names in hand]
        self.leads, at, new = [], 0, itertools.count()
        while at < len(self.rows):
            number, names = self.rows[at]
            self.leads.append([])
            for other, columns, key in schema[number][3]:
                told = dict(zip(key, has(schema, number, names, columns)))
                self.leads[at].append(len(self.rows))
                self.rows.append((other, [told.get(name, next(new)) for name in schema[other][0]]))
            at += 1
        self.grown = marked(self.rows)
        self.one = list(range(len(self.rows)))
        while self.step():
            pass

    def same(self, name, mate):
        for _, names in self.rows:
            names[:] = [name if part == mate else part for part in names]

    def step(self):
        for at, mate in itertools.combinations(range(len(self.rows)), 2):
            (number, one), (other, two) = self.rows[at], self.rows[mate]
            if number != other:
                continue
            for few, what in self.schema[number][1]:
                pair = has(self.schema, number, one, [what]) + has(self.schema, number, two, [what])
                if has(self.schema, number, one, few) == has(self.schema, number, two, few) and pair[0] != pair[1]:
                    self.same(*pair)
                    return True
            for key in self.schema[number][2]:
                if has(self.schema, number, one, key) == has(self.schema, number, two, key):
                    if self.one[at] != self.one[mate]:
                        for place in range(len(one)):
                            self.same(one[place], two[place])
                        self.one = [self.one[at] if part == self.one[mate] else part for part in self.one]
                        return True
            if number > 0 and one == two and self.one[at] != self.one[mate]:
                self.one = [self.one[at] if part == self.one[mate] else part for part in self.one]
                return True
        return False

    def picture(self, many):
        order = []
        for at in range(many):
            if self.one[at] not in [self.one[mate] for mate in order]:
                order.append(at)
        at = 0
        while at < len(order):
            for mate in self.leads[order[at]]:
                if self.one[mate] not in [self.one[part] for part in order]:
                    order.append(mate)
            at += 1
        ones = [self.one[at] for at in order]
        return marked([self.rows[at] for at in order]), tuple(ones.index(self.one[at]) for at in range(many))
