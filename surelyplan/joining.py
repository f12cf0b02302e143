"""The rows of some atoms of a query, joined atom by atom."""


class Joined:
    """The variables of some atoms, in an order, and a dict from values of these to the counts above 0 of rows."""

    def __init__(self, bound, counts):
        self.bound = bound
        self.counts = counts
        self.many = sum(counts.values())

    def sums_of(self, variable):
        """Return a dict from values of a variable to the numbers of rows with this value."""
        place = self.bound.index(variable)
        sums = {}
        for values, count in self.counts.items():
            sums[values[place]] = sums.get(values[place], 0) + count
        return sums


def no_atoms():
    """Return the rows of no atoms: one row without values."""
    return Joined((), {(): 1})


def fitting_cells(query, index):
    """Return the list of pairs of a place and a cell: those of the table of an atom whose rows are rows of the atom.

    These are the cells that the filters keep, with equal values for equal variables.
    """
    table, variables = query.atoms[index]
    allowed = [query.allowed(variable) for variable in variables]
    return [
        (place, cell) for place, cell in enumerate(query.schema.cells(table))
        if all([value in some for value, some in zip(cell, allowed)]) and _fits(variables, cell)
    ]


def rows_with(variables, fitting, counts):
    """Return the rows of an atom with some variables and fitting cells, from the counts of its table."""
    bound = tuple([variable for place, variable in enumerate(variables) if variable not in variables[:place]])
    return Joined(bound, {cell[:len(bound)]: counts[place] for place, cell in fitting if counts[place] > 0})


def atom_rows(query, data, index):
    """Return the rows of one atom."""
    table, variables = query.atoms[index]
    return rows_with(variables, fitting_cells(query, index), data.tables[table])


def atom_cells(query, data, index):
    """Return the ascending list of pairs of a cell and its count, of the rows of one atom."""
    counts = data.tables[query.atoms[index][0]]
    return [(cell, counts[place]) for place, cell in fitting_cells(query, index) if counts[place] > 0]


def join_rows(one, other):
    """Return the rows that two kinds of rows make together."""
    added = [place for place, variable in enumerate(other.bound) if variable not in one.bound]
    shared = [place for place, variable in enumerate(other.bound) if variable in one.bound]
    own = [one.bound.index(other.bound[place]) for place in shared]
    partners = {}
    for values, count in other.counts.items():
        extra = tuple([values[place] for place in added])
        partners.setdefault(tuple([values[place] for place in shared]), []).append((extra, count))
    made = {}
    for values, count in one.counts.items():
        for extra, times in partners.get(tuple([values[place] for place in own]), []):
            made[values + extra] = count * times
    return Joined(one.bound + tuple([other.bound[place] for place in added]), made)


def joined_rows(query, data, indices):
    """Return the rows of some atoms, joined in this order."""
    rows = no_atoms()
    for index in indices:
        rows = join_rows(rows, atom_rows(query, data, index))
    return rows


def _fits(variables, cell):
    """Return whether a cell has equal values wherever a variable occurs twice."""
    return len(set(variables)) == len(cell) or len(set(cell)) == 1
