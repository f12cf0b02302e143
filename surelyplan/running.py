"""Runs of queries row by row, whose order can be changed while they run."""

from surelyplan.errors import NotPossible
from surelyplan.joining import atom_cells
from surelyplan.plain import all_tuples
from surelyplan.queries import check_query_and_data, need_order


class Run:
    """A run of a query on data: a pile of waiting rows, and the part of the answer that has been told.

    A waiting row is a triple: the values of all variables, None for those that it does not have yet; the atoms
    that it still needs; and its count.
    """

    def __init__(self, query, data, order):
        check_query_and_data(query, data)
        need_order(query, order)
        self.query = query
        self.data = data
        self.pile = [((None,) * query.variables(), order, 1)]
        self.sums = {}
        self.used = {}
        self.partners = _partners(query, data)

    def __len__(self):
        return len(self.pile)

    def is_done(self):
        """Return whether no row waits."""
        return self.pile == []

    def waiting(self):
        """Return the list of the waiting rows: their values, the atoms that they still need, and their counts."""
        return [(_known_values(values), needed, count) for values, needed, count in self.pile]

    def told(self):
        """Return the part of the answer that has been told."""
        return {shown: self.sums[shown] for shown in sorted(self.sums)}

    def rest(self):
        """Return the part of the answer that the waiting rows still lead to."""
        twin = self.branch()
        twin.sums = {}
        return twin.finish()

    def seen(self):
        """Return the ascending list of pairs of a table that has been used, and its number of rows."""
        return [(table, self.data.rows(table)) for table in sorted(self.used)]

    def step(self):
        """Do a step: tell the last waiting row, or put the rows that it makes with its next atom in its place."""
        if self.pile == []:
            raise NotPossible("no row waits")
        values, needed, count = self.pile.pop()
        if needed == ():
            shown = tuple([values[variable] for variable in self.query.shown])
            self.sums[shown] = self.sums.get(shown, 0) + count
            return 0
        table, variables = self.query.atoms[needed[0]]
        self.used[table] = True
        cells = self.partners.get((needed[0],) + tuple([values[variable] for variable in variables]), [])
        for cell, times in cells:
            self.pile.append((_with_cell(values, variables, cell), needed[1:], count * times))
        return len(cells)

    def finish(self):
        """Do steps until no row waits, and return the answer."""
        while self.pile != []:
            self.step()
        return self.told()

    def change_order(self, order):
        """Let each waiting row need its atoms in another order."""
        need_order(self.query, order)
        self.pile = [
            (values, tuple([index for index in order if index in needed]), count)
            for values, needed, count in self.pile
        ]

    def branch(self):
        """Return an independent run in the same state."""
        twin = Run(self.query, self.data, tuple(range(len(self.query))))
        twin.pile = list(self.pile)
        twin.sums = {shown: self.sums[shown] for shown in self.sums}
        twin.used = dict(self.used)
        return twin


def run_through(query, data, order):
    """Return the answer of a query, made by a run."""
    return Run(query, data, order).finish()


def _partners(query, data):
    """Return a dict from an atom and the values known for its variables, or None, to the cells that go with them.

    So that a step meets no cell in vain, however many rows wait.
    """
    partners = {}
    for index in range(len(query)):
        for cell, count in atom_cells(query, data, index):
            for known in all_tuples([(None, value) for value in cell]):
                key = (index,) + known
                partners.setdefault(key, []).append((cell, count))
    return partners


def _known_values(values):
    return {variable: value for variable, value in enumerate(values) if value is not None}


def _with_cell(values, variables, cell):
    longer = list(values)
    for variable, value in zip(variables, cell):
        longer[variable] = value
    return tuple(longer)
