"""A Board: TABLES that keep their SCHEMA, dealt to HOUSES, with QUESTIONS that are kept, and deeds to be undone."""

from rowsathome.commits import at_once
from rowsathome.deals import rows_at
from rowsathome.errors import Known, NoHouse, NothingDone, Unfit
from rowsathome.joins import merged
from rowsathome.looks import (
    answer_by_houses,
    answer_in,
    astray_in,
    is_kept_at_home,
    is_right_by_houses,
    names_of,
    pairs_waiting,
)
from rowsathome.lookups import need_word
from rowsathome.shapes import frozen
from rowsathome.tables import keeps


class Board:
    """A SCHEMA, and a DEAL, a DEALING, TABLES and kept QUESTIONS as they are so far."""

    def __init__(self, schema, deal, houses):
        schema = frozen(schema)
        self._schema = schema
        # All that deeds change is one tuple that is never changed itself, so undo and twin need no copies.
        self._now = (frozen(deal), (houses, ()), tuple([() for _ in schema]), ())
        self._past = []

    def __len__(self):
        return len(self._past)

    def __eq__(self, other):
        return isinstance(other, Board) and self._schema == other._schema and self._now == other._now

    def _turn(self, now):
        self._past.append(self._now)
        self._now = now

    def _turn_tables(self, tables):
        if not keeps(self._schema, tables):
            raise Unfit()
        deal, dealing, _, kept = self._now
        self._turn((deal, dealing, tables, kept))

    def put(self, number, row):
        """Put this ROW into the SHEET with this number."""
        self.commit((("put", number, row),))

    def take(self, number, row):
        """Take this ROW from the SHEET with this number."""
        self.commit((("take", number, row),))

    def commit(self, deeds):
        """Do these DEEDS at once."""
        self._turn_tables(at_once(self._schema, self._now[2], deeds))

    def merge(self, one, other):
        """Turn to the MERGE of two copies of the TABLES so far."""
        self._turn_tables(merged(self._schema, self._now[2], one, other))

    def send(self, names, house):
        """Let these names go to this HOUSE from now on."""
        deal, (houses, told), tables, kept = self._now
        if not 0 <= house < houses:
            raise NoHouse(house)
        names = frozen(names)
        others = [pair for pair in told if pair[0] != names]
        # Names that are not told go to HOUSE 0.
        sent = [(names, house)] if house > 0 else []
        self._turn((deal, (houses, tuple(sorted([*others, *sent]))), tables, kept))

    def part(self, deal):
        """Deal the SHEETS so from now on."""
        _, dealing, tables, kept = self._now
        self._turn((frozen(deal), dealing, tables, kept))

    def keep(self, name, question, word):
        """Keep this QUESTION, to be answered by this WORD, under this name."""
        deal, dealing, tables, kept = self._now
        if name in names_of(kept):
            raise Known(name)
        need_word(word)
        self._turn((deal, dealing, tables, tuple(sorted([*kept, (name, frozen(question), word)]))))

    def drop(self, name):
        """Let the QUESTION that is kept under this name go."""
        deal, dealing, tables, kept = self._now
        gone = self._asked(name)
        self._turn((deal, dealing, tables, tuple([part for part in kept if part != gone])))

    def undo(self):
        """Take back the last deed that is not taken back."""
        if not self._past:
            raise NothingDone()
        self._now = self._past.pop()

    def twin(self):
        """Return an equal Board, with the same deeds to be taken back, that shares nothing with this one."""
        mate = Board(self._schema, self._now[0], self._now[1][0])
        mate._now = self._now
        mate._past = list(self._past)
        return mate

    def schema(self):
        """Return the SCHEMA."""
        return self._schema

    def deal(self):
        """Return the DEAL so far."""
        return self._now[0]

    def dealing(self):
        """Return the DEALING so far."""
        return self._now[1]

    def tables(self):
        """Return the TABLES so far."""
        return self._now[2]

    def kept(self):
        """Return the ascending tuple of the triples (name, question, word) of what is kept."""
        return self._now[3]

    def waits(self):
        """Return the list of the pairs of KINDS that wait for one another by the DEAL."""
        return pairs_waiting(self._schema, self._now[0])

    def house(self, number):
        """Return the TABLES of just the ROWS in this HOUSE."""
        deal, dealing, tables, _ = self._now
        return rows_at(self._schema, tables, deal, dealing, number)

    def astray(self):
        """Return the set of the triples (house, number, other) of REFERENCES that some ROW misses in a HOUSE."""
        deal, dealing, tables, _ = self._now
        return astray_in(self._schema, tables, deal, dealing)

    def answer(self, name):
        """Return the answer of the QUESTION kept under this name."""
        return answer_in(self._schema, self._now[2], self._asked(name))

    def by_houses(self, name):
        """Return the answers of the HOUSES to the QUESTION kept under this name, put together."""
        kept = self._asked(name)
        deal, dealing, tables, _ = self._now
        return answer_by_houses(self._schema, tables, deal, dealing, kept)

    def _asked(self, name):
        """Return the triple that is kept under this name."""
        found = [part for part in self._now[3] if part[0] == name]
        if not found:
            raise Unfit()
        return found[0]

    def right(self):
        """Return the set of the names for which the answers of the HOUSES, put together, are the answer."""
        deal, dealing, tables, kept = self._now
        return names_of([part for part in kept if is_right_by_houses(self._schema, tables, deal, dealing, part)])

    def at_home(self):
        """Return the set of the names whose QUESTION is told at home by its WORD and the DEAL."""
        deal, _, _, kept = self._now
        return names_of([part for part in kept if is_kept_at_home(self._schema, deal, part)])

    def changed(self):
        """Return the set of the names whose QUESTION had another answer ahead of the last deed not taken back."""
        if not self._past:
            return ()
        before, now = self._past[-1][2], self._now[2]
        return names_of([
            part for part in self._now[3]
            if answer_in(self._schema, before, part) != answer_in(self._schema, now, part)
        ])
