"""Tables that are stored sorted, in blocks, and the blocks that must be read for an atom of a query."""

from surelyplan.errors import BadMemory, BadNumber
from surelyplan.joining import atom_cells
from surelyplan.plain import is_between, is_sequence
from surelyplan.queries import check_query_and_data, used_tables
from surelyplan.schemas import Data, need_data, need_table
from surelyplan.sizes import check_notes_and_query, some_counts, table_choices
from surelyplan.statistics import MOST_LISTED, agree

MOST_IN_BLOCK = 8


class SurelyFirst:
    """A column by which sorting never needs more blocks to be read than by the other column."""

    def __init__(self, first):
        self.first = first

    def __eq__(self, other):
        return isinstance(other, SurelyFirst) and self.first == other.first

    def shows(self, stats, query, index, block):
        """Return whether the column is one of the table of the atom, and first for sure."""
        networks = _check_notes(stats, query, index)
        numbers = _numbers_of_all(networks, query, index, block)
        if not is_between(self.first, 0, len(query.atoms[index][1]) - 1):
            return False
        return all([read[self.first] == min(read) for counts, read in numbers])


class FirstTorn:
    """For each column agreeing data on which sorting by another column needs fewer blocks."""

    def __init__(self, against):
        self.against = list(against)

    def __eq__(self, other):
        return isinstance(other, FirstTorn) and self.against == other.against

    def shows(self, stats, query, index, block):
        """Return whether the data agree, and sorting by another column needs fewer blocks on those of each one."""
        networks = _check_notes(stats, query, index)
        _agreeing_tables(networks, query, index, block)
        table, variables = query.atoms[index]
        if not is_sequence(self.against) or len(self.against) != len(variables):
            return False
        if not all([data.schema == stats.schema and agree(stats, data) for data in self.against]):
            return False
        room = Room(query, index)
        numbers = [_numbers_read(room, stats.schema, data.tables[table], block) for data in self.against]
        return all([min(read) < read[column] for column, read in enumerate(numbers)])


class Room:
    """Whether the zones of blocks leave room for an atom; what was found out for a block is kept."""

    def __init__(self, query, index):
        self.table = query.atoms[index][0]
        self.names = query.atoms[index][1]
        self.choices = [query.allowed(variable) for variable in self.names]
        self.found = {}

    def is_left(self, cells):
        """Return whether a block, a tuple of cells, must be read."""
        if cells not in self.found:
            within = [
                [value for value in values if low <= value <= high]
                for values, (low, high) in zip(self.choices, _zone(cells))
            ]
            self.found[cells] = all([values != [] for values in within]) and self._is_possible(within)
        return self.found[cells]

    def _is_possible(self, within):
        """Return whether values within the pairs of all columns can be equal wherever the variable is the same."""
        if len(set(self.names)) == len(self.names):
            return True
        return any([value in within[1] for value in within[0]])


def stored_blocks(data, table, first, block):
    """Return the list of the blocks of a table that is sorted by a column, as lists of cells."""
    _check_table(data, table, first)
    _need_block(block)
    return [list(cells) for cells in _blocks(_stored(data.schema, table, data.tables[table], first), block)]


def zones(data, table, first, block):
    """Return the list of the zones of all blocks: tuples of pairs of the least and the greatest value."""
    return [_zone(cells) for cells in stored_blocks(data, table, first, block)]


def run_count(data, table, first):
    """Return the tuple of the numbers of runs in all columns of a table that is sorted by a column."""
    _check_table(data, table, first)
    rows = _stored(data.schema, table, data.tables[table], first)
    columns = [[cell[column] for cell in rows] for column in range(data.schema.widths[table])]
    return tuple([
        len([place for place, value in enumerate(values) if place == 0 or values[place - 1] != value])
        for values in columns
    ])


def blocks_to_read(query, data, index, first, block):
    """Return the ascending list of the indices of the blocks that must be read for an atom."""
    _check_atom(query, data, index, first, block)
    room = Room(query, index)
    rows = _stored(data.schema, room.table, data.tables[room.table], first)
    return [place for place, cells in enumerate(_blocks(rows, block)) if room.is_left(cells)]


def rows_from_blocks(query, data, index, first, block):
    """Return the list of the cells of the rows of an atom, in the order in which they are stored."""
    read = blocks_to_read(query, data, index, first, block)
    blocks = stored_blocks(data, query.atoms[index][0], first, block)
    fitting = [cell for cell, count in atom_cells(query, data, index)]
    return [cell for place in read for cell in blocks[place] if cell in fitting]


def block_ends(stats, query, index, first, block):
    """Return the pair of the smallest and the greatest number of blocks that must be read, over all agreeing data."""
    networks = _check_notes(stats, query, index)
    _need_column(query.schema, query.atoms[index][0], first)
    numbers = [read[first] for counts, read in _numbers_of_all(networks, query, index, block)]
    return min(numbers), max(numbers)


def judge_first(stats, query, index, block):
    """Return a `SurelyFirst`, or a `FirstTorn` if no column is first for sure."""
    networks = _check_notes(stats, query, index)
    numbers = _numbers_of_all(networks, query, index, block)
    against = []
    for column in range(len(query.atoms[index][1])):
        worse = [counts for counts, read in numbers if min(read) < read[column]]
        if worse == []:
            return SurelyFirst(column)
        tables = some_counts(networks)
        tables[query.atoms[index][0]] = worse[0]
        against.append(Data(stats.schema, tables))
    return FirstTorn(against)


def _check_table(data, table, first):
    need_data(data)
    need_table(data.schema, table)
    _need_column(data.schema, table, first)


def _check_atom(query, data, index, first, block):
    check_query_and_data(query, data)
    _need_atom(query, index)
    _need_column(query.schema, query.atoms[index][0], first)
    _need_block(block)


def _check_notes(stats, query, index):
    """Raise the errors of statistics, a query and an atom, and return the networks of all tables."""
    networks = check_notes_and_query(stats, query)
    _need_atom(query, index)
    return networks


def _agreeing_tables(networks, query, index, block):
    """Return the counts of all agreeing tables of an atom, if there are not too many combinations."""
    _need_block(block)
    tables = used_tables(query)
    choices = table_choices(networks, tables, MOST_LISTED)
    return choices[tables.index(query.atoms[index][0])]


def _need_atom(query, index):
    if not is_between(index, 0, len(query) - 1):
        raise BadNumber("not the index of an atom")


def _need_column(schema, table, column):
    if not is_between(column, 0, schema.widths[table] - 1):
        raise BadNumber("not a column of the table")


def _need_block(block):
    if not is_between(block, 1, MOST_IN_BLOCK):
        raise BadMemory("not an integer from 1 to 8")


def _stored(schema, table, counts, first):
    """Return the list of the rows of a table, each one as its cell, sorted by a column."""
    cells = list(zip(schema.cells(table), counts))
    if first == 1:
        cells = sorted([((cell[1], cell[0]), count) for cell, count in cells])
        cells = [((second, value), count) for (value, second), count in cells]
    return [cell for cell, count in cells for _ in range(count)]


def _blocks(rows, block):
    """Return the list of the blocks of stored rows, as tuples of cells."""
    return [tuple(rows[start:start + block]) for start in range(0, len(rows), block)]


def _zone(cells):
    """Return the tuple of the pairs of the least and the greatest value in each column of a block."""
    columns = [[cell[column] for cell in cells] for column in range(len(cells[0]))]
    return tuple([(min(values), max(values)) for values in columns])


def _numbers_read(room, schema, counts, block):
    """Return the list of the numbers of blocks that must be read, if the table is sorted by each of its columns."""
    numbers = []
    for first in range(len(room.names)):
        blocks = _blocks(_stored(schema, room.table, counts, first), block)
        numbers.append(len([cells for cells in blocks if room.is_left(cells)]))
    return numbers


def _numbers_of_all(networks, query, index, block):
    """Return a list of pairs: the counts of an agreeing table of an atom, and the numbers of blocks to be read."""
    tables = _agreeing_tables(networks, query, index, block)
    room = Room(query, index)
    return [(counts, _numbers_read(room, query.schema, counts, block)) for counts in tables]
