"""Schemas, and data: tables given by the number of rows of each cell."""

from surelyplan.errors import BadCell, BadData, BadNumber, BadSchema, BadTable
from surelyplan.plain import all_tuples, are_between, is_between, is_group, is_sequence

LEAST_SIZE = 2
MOST_SIZE = 6
MOST_TABLES = 4
MOST_WIDTH = 2
MOST_COUNT = 9


class Schema:
    """The number of values, and the width of each table."""

    def __init__(self, size, widths):
        if not is_between(size, LEAST_SIZE, MOST_SIZE):
            raise BadSchema("the size is not an integer from 2 to 6")
        if not _are_widths(widths):
            raise BadSchema("the widths are not a tuple of one to four widths, 1 or 2")
        self.size = size
        self.widths = widths

    def __eq__(self, other):
        return isinstance(other, Schema) and self.size == other.size and self.widths == other.widths

    def __len__(self):
        return len(self.widths)

    def cells(self, table):
        """Return the ascending list of the cells of a table."""
        need_table(self, table)
        return all_tuples([list(range(self.size))] * self.widths[table])


class Data:
    """For each table of a schema, the numbers of rows of its cells."""

    def __init__(self, schema, tables):
        need_schema(schema)
        if not is_sequence(tables) or len(tables) != len(schema):
            raise BadData(None)
        for table, counts in enumerate(tables):
            if not _are_counts(schema, table, counts):
                raise BadData(table)
        self.schema = schema
        self.tables = tuple([tuple(counts) for counts in tables])

    def __eq__(self, other):
        return isinstance(other, Data) and self.schema == other.schema and self.tables == other.tables

    def __len__(self):
        return len(self.tables)

    def rows(self, table):
        """Return the number of rows of a table."""
        need_table(self.schema, table)
        return sum(self.tables[table])

    def with_value(self, table, column, value):
        """Return the number of rows of a table with a value in a column."""
        need_table(self.schema, table)
        if not is_between(column, 0, self.schema.widths[table] - 1):
            raise BadNumber("not a column of the table")
        if not is_between(value, 0, self.schema.size - 1):
            raise BadNumber("not a value of the schema")
        return sum([count for cell, count in self.filled(table) if cell[column] == value])

    def count_of(self, table, cell):
        """Return the number of rows of a cell."""
        need_table(self.schema, table)
        if not is_cell(self.schema, table, cell):
            raise BadCell("not a cell of the table")
        return self.tables[table][cell_place(self.schema.size, cell)]

    def filled(self, table):
        """Return the ascending list of pairs of a cell that some row has and the number of its rows."""
        need_table(self.schema, table)
        return [(cell, count) for cell, count in zip(self.schema.cells(table), self.tables[table]) if count > 0]


def need_schema(schema):
    """Raise an error unless an argument is a schema."""
    if not isinstance(schema, Schema):
        raise BadSchema("not a schema")


def need_data(data):
    """Raise an error unless an argument is data."""
    if not isinstance(data, Data):
        raise BadData(None)


def need_table(schema, table):
    """Raise an error unless an argument is the number of a table of the schema."""
    if not is_between(table, 0, len(schema) - 1):
        raise BadTable("not the number of a table of the schema")


def is_cell(schema, table, cell):
    """Return whether a value is a cell of a table of the schema."""
    return is_group(cell, schema.widths[table]) and are_between(cell, 0, schema.size - 1)


def cell_place(size, cell):
    """Return the index of a cell among the ascending cells of its table."""
    place = 0
    for value in cell:
        place = place * size + value
    return place


def _are_widths(widths):
    return isinstance(widths, tuple) and 1 <= len(widths) <= MOST_TABLES and are_between(widths, 1, MOST_WIDTH)


def _are_counts(schema, table, counts):
    many = len(schema.cells(table))
    return is_sequence(counts) and len(counts) == many and are_between(counts, 0, MOST_COUNT)
