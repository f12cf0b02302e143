"""Quantities of tables, notes about them, and the bounds that notes set."""

from surelyplan.plain import is_between
from surelyplan.schemas import MOST_COUNT, cell_place, is_cell

ROWS = ("rows",)


def all_quantities(schema, table):
    """Return the list of the quantities of a table, in their order."""
    quantities = [ROWS]
    for column in range(schema.widths[table]):
        quantities += [("value", column, value) for value in range(schema.size)]
    return quantities + [("cell", cell) for cell in schema.cells(table)]


def is_quantity(schema, table, quantity):
    """Return whether a value is a quantity of a table of the schema."""
    if not isinstance(quantity, tuple) or quantity == ():
        return False
    word = quantity[0]
    if not isinstance(word, str):
        return False
    if word == "value":
        return len(quantity) == 3 and _is_column_value(schema, table, quantity[1], quantity[2])
    if word == "cell":
        return len(quantity) == 2 and is_cell(schema, table, quantity[1])
    return quantity == ROWS


def is_note(schema, note):
    """Return whether a value is a note for the schema."""
    if not isinstance(note, tuple) or len(note) < 4 or not is_between(note[1], 0, len(schema) - 1):
        return False
    most = MOST_COUNT * schema.size ** 2
    table, quantity, low, high = note_parts(note)
    return is_between(low, 0, most) and is_between(high, 0, most) and is_quantity(schema, table, quantity)


def note_parts(note):
    """Return the table, the quantity and the two bounds of a note."""
    return note[1], note[:1] + note[2:-2], note[-2], note[-1]


def cells_about(schema, table, quantity):
    """Return the list of the indices of the cells whose rows a quantity counts."""
    if quantity[0] == "cell":
        return [cell_place(schema.size, quantity[1])]
    many = schema.size ** 2 if schema.widths[table] == 2 else schema.size
    if quantity == ROWS:
        return list(range(many))
    # The cells with a value in the first column lie side by side, those with one in the last column far apart.
    column, value = quantity[1:]
    if column == schema.widths[table] - 1:
        return list(range(value, many, schema.size))
    return list(range(value * schema.size, (value + 1) * schema.size))


def value_on(schema, table, quantity, counts):
    """Return the value of a quantity of a table with some counts."""
    return sum([counts[place] for place in cells_about(schema, table, quantity)])


def agrees_with(schema, note, counts):
    """Return whether the counts of its table agree with a note."""
    table, quantity, low, high = note_parts(note)
    return low <= value_on(schema, table, quantity, counts) <= high


def bounds_of(stats, table, quantity):
    """Return the pair of the bounds of a quantity, over all notes about exactly its cells."""
    places = cells_about(stats.schema, table, quantity)
    least, greatest = 0, MOST_COUNT * len(places)
    for note in stats.notes:
        noted, told, low, high = note_parts(note)
        if noted == table and cells_about(stats.schema, table, told) == places:
            least, greatest = max(least, low), min(greatest, high)
    return least, greatest


def bounds_cross(stats, table, quantity):
    """Return whether the bounds of a quantity cross, so that no table agrees."""
    low, high = bounds_of(stats, table, quantity)
    return low > high


def _is_column_value(schema, table, column, value):
    return is_between(column, 0, schema.widths[table] - 1) and is_between(value, 0, schema.size - 1)
