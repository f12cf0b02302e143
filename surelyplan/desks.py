"""A desk with data and notes that agree with each other, and that can undo all of its operations."""

from surelyplan.errors import BadCell, BadIndex, BadNotes, Disagrees, NotPossible, NothingDone
from surelyplan.notes import agrees_with, is_note
from surelyplan.plain import is_between
from surelyplan.schemas import MOST_COUNT, Data, cell_place, is_cell, need_table
from surelyplan.statistics import MOST_NOTES, Statistics, broken_notes


class Trial:
    """A with-block at a desk, after which all is as it was when it began."""

    def __init__(self, desk):
        self.desk = desk
        self.notes = ()
        self.tables = ()
        self.past = []
        self.start = 0

    def __enter__(self):
        self.notes = self.desk.notes
        self.tables = self.desk.tables
        self.past = list(self.desk.past)
        self.start = self.desk.start
        self.desk.start = len(self.past)
        return self.desk

    def __exit__(self, kind, value, trace):
        self.desk.notes = self.notes
        self.desk.tables = self.tables
        self.desk.past = self.past
        self.desk.start = self.start


class Desk:
    """Data and notes that agree with each other, and all operations so far.

    The past is a list of triples: an operation, and the notes and the tables before it. Operations before the
    start belong to what was done before the trial that is going on.
    """

    def __init__(self, stats, data):
        broken = broken_notes(stats, data)
        if broken != []:
            raise Disagrees(broken[0])
        self.schema = data.schema
        self.notes = stats.notes
        self.tables = data.tables
        self.past = []
        self.start = 0

    def __len__(self):
        return len(self.past)

    @property
    def known(self):
        """The current notes."""
        return Statistics(self.schema, self.notes)

    @property
    def now(self):
        """The current data."""
        return Data(self.schema, self.tables)

    @property
    def journal(self):
        """The list of all operations so far."""
        return [done[0] for done in self.past]

    def put(self, table, cell):
        """Add a row to a cell, and return the data."""
        if self._count_of(table, cell) == MOST_COUNT:
            raise NotPossible("the cell has nine rows")
        return self._change_count(("put", table, cell), 1)

    def take(self, table, cell):
        """Remove a row from a cell, and return the data."""
        if self._count_of(table, cell) == 0:
            raise NotPossible("the cell has no rows")
        return self._change_count(("take", table, cell), -1)

    def note(self, note):
        """Append a note, and return the notes."""
        many = len(self.notes)
        if many == MOST_NOTES:
            raise NotPossible("there are sixteen notes")
        if not is_note(self.schema, note):
            raise BadNotes(many)
        if not agrees_with(self.schema, note, self.tables[note[1]]):
            raise Disagrees(many)
        self._do(("note", note), self.notes + (note,), self.tables)
        return self.known

    def drop(self, index):
        """Remove a note, and return the notes."""
        if not is_between(index, 0, len(self.notes) - 1):
            raise BadIndex("there is no note with this index")
        self._do(("drop", index), self.notes[:index] + self.notes[index + 1:], self.tables)
        return self.known

    def undo(self):
        """Revert the last operation, and return it."""
        if len(self.past) == self.start:
            raise NothingDone("there is no operation, or none in the trial")
        operation, self.notes, self.tables = self.past.pop()
        return operation

    def branch(self):
        """Return an independent desk in the same state, in which all operations can be undone."""
        twin = Desk(self.known, self.now)
        twin.past = list(self.past)
        return twin

    def trial(self):
        """Return a trial."""
        return Trial(self)

    def attempt(self, work):
        """Call a function with the desk inside a trial, and return its result."""
        with self.trial():
            return work(self)

    def _count_of(self, table, cell):
        need_table(self.schema, table)
        if not is_cell(self.schema, table, cell):
            raise BadCell("not a cell of the table")
        return self.tables[table][cell_place(self.schema.size, cell)]

    def _change_count(self, operation, more):
        """Do an operation that adds to the count of a cell, unless the data then disagree with a note."""
        table = operation[1]
        counts = list(self.tables[table])
        counts[cell_place(self.schema.size, operation[2])] += more
        for index, note in enumerate(self.notes):
            if note[1] == table and not agrees_with(self.schema, note, counts):
                raise Disagrees(index)
        self._do(operation, self.notes, self.tables[:table] + (tuple(counts),) + self.tables[table + 1:])
        return self.now

    def _do(self, operation, notes, tables):
        self.past.append((operation, self.notes, self.tables))
        self.notes = notes
        self.tables = tables
