"""Cases that are drawn by chance, but always the same ones."""

from random import Random

from surelyplan.queries import Query
from surelyplan.schemas import Data, Schema
from surelyplan.statistics import Statistics
from tests import oracle


def draw_data(chance, schema, most=9):
    tables = [[chance.randint(0, most) for _ in oracle.cells(schema, table)] for table in range(len(schema.widths))]
    return Data(schema, tables)


def draw_atoms(chance, widths, most_atoms, most_variables):
    """Different atoms, their variables numbered in an order of their own."""
    wanted = chance.randint(1, most_atoms)
    atoms = []
    for _ in range(wanted):
        table = chance.randrange(len(widths))
        atom = (table, tuple(chance.randrange(most_variables) for _ in range(widths[table])))
        if atom not in atoms:
            atoms.append(atom)
    used = sorted({variable for _, inner in atoms for variable in inner})
    numbers = {variable: number for number, variable in enumerate(used)}
    return tuple((table, tuple(numbers[variable] for variable in inner)) for table, inner in atoms), len(used)


def draw_query(chance, schema, most_atoms=4, most_variables=4, filtered=True, shown=None):
    """A query; `shown` is the number of shown variables, if there are so many."""
    atoms, many = draw_atoms(chance, schema.widths, most_atoms, most_variables)
    filters = []
    for variable in range(many):
        if filtered and chance.random() < 0.3:
            filters.append((variable, tuple(v for v in range(schema.size) if chance.random() < 0.6)))
    some = chance.randint(0, many) if shown is None else min(shown, many)
    return Query(schema, atoms, tuple(filters), tuple(chance.sample(range(many), some)))


def draw_note(chance, schema, table, counts, spread):
    """A note that mostly, but not always, agrees with some counts."""
    quantity = chance.choice(oracle.quantities(schema, table))
    value = oracle.quantity_value(schema, table, quantity, counts)
    most = 9 * schema.size ** 2
    low = min(most, max(0, value - chance.randint(-1, spread)))
    high = min(most, max(0, value + chance.randint(-1, spread)))
    return oracle.note_about(quantity, table, low, high)


def draw_stats(chance, schema, many, spread=2, most=9):
    """Statistics with many notes, around some data."""
    data = draw_data(chance, schema, most)
    notes = []
    for _ in range(many):
        table = chance.randrange(len(schema.widths))
        notes.append(draw_note(chance, schema, table, data.tables[table], spread))
    return Statistics(schema, notes)


def draw_odd_stats(chance, schema, table, most=9):
    """Statistics with at most one note about the same cells, around numbers that need not fit together."""
    notes = []
    quantities = oracle.quantities(schema, table)
    about = [tuple(oracle.cells_of(schema, table, quantity)) for quantity in quantities]
    for place, quantity in enumerate(quantities):
        if about[place] not in about[:place] and chance.random() < 0.7:
            low = chance.randint(0, most * len(about[place]))
            notes.append(oracle.note_about(quantity, table, low, min(9 * len(about[place]), low + chance.randint(0, 2))))
    return Statistics(schema, notes[:16])


def chance_of(seed):
    return Random(seed)


def any_schema(chance, most_size=6, most_tables=4):
    widths = tuple(chance.randint(1, 2) for _ in range(chance.randint(1, most_tables)))
    return Schema(chance.randint(2, most_size), widths)
