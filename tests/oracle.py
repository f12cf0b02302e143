"""What the document says, in its own words and by listing everything: slow, and independent of the package."""

from itertools import combinations, permutations, product

from surelyplan.queries import Query
from surelyplan.schemas import Data, Schema


def cells(schema, table):
    return list(product(range(schema.size), repeat=schema.widths[table]))


def every_table(schema, table):
    return product(range(10), repeat=len(cells(schema, table)))


def quantities(schema, table):
    found = [("rows",)]
    for column in range(schema.widths[table]):
        found += [("value", column, value) for value in range(schema.size)]
    return found + [("cell", cell) for cell in cells(schema, table)]


def cells_of(schema, table, quantity):
    """The cells that a quantity is about."""
    if quantity[0] == "rows":
        return cells(schema, table)
    if quantity[0] == "value":
        return [cell for cell in cells(schema, table) if cell[quantity[1]] == quantity[2]]
    return [quantity[1]]


def quantity_value(schema, table, quantity, counts):
    rows = dict(zip(cells(schema, table), counts))
    return sum(rows[cell] for cell in cells_of(schema, table, quantity))


def quantity_of(note):
    return (note[0],) + tuple(note[2:len(note) - 2])


def note_about(quantity, table, low, high):
    return (quantity[0], table) + tuple(quantity[1:]) + (low, high)


def note_holds(schema, note, counts):
    return note[-2] <= quantity_value(schema, note[1], quantity_of(note), counts) <= note[-1]


def values_of(schema, table, quantity, tables):
    """The values of a quantity in many tables."""
    places = [cells(schema, table).index(cell) for cell in cells_of(schema, table, quantity)]
    return [sum(counts[place] for place in places) for counts in tables]


def listed(schema, table, kept={}):
    """All tables, and the values of all quantities in them: made once for each kind of table."""
    kind = (schema.size, schema.widths[table])
    if kind not in kept:
        tables = list(every_table(schema, table))
        kept[kind] = tables, {
            quantity: values_of(schema, table, quantity, tables) for quantity in quantities(schema, table)
        }
    return kept[kind]


def agreeing(stats, table, tables=None):
    """The ascending list of the agreeing tables among some tables, or among all of them."""
    if tables is None:
        tables, values = listed(stats.schema, table)
    else:
        tables, values = list(tables), None
    left = range(len(tables))
    for note in stats.notes:
        if note[1] == table:
            quantity = quantity_of(note)
            known = values[quantity] if values else values_of(stats.schema, table, quantity, tables)
            left = [index for index in left if note[-2] <= known[index] <= note[-1]]
    return [tables[index] for index in left]


def bounds(stats, table, quantity):
    about = cells_of(stats.schema, table, quantity)
    low, high = 0, 9 * len(about)
    for note in stats.notes:
        if note[1] == table and cells_of(stats.schema, table, quantity_of(note)) == about:
            low, high = max(low, note[-2]), min(high, note[-1])
    return low, high


def crossed_quantities(stats, table):
    found = []
    for quantity in quantities(stats.schema, table):
        low, high = bounds(stats, table, quantity)
        if low > high:
            found.append(quantity)
    return found


def nodes(schema, table):
    if schema.widths[table] == 1:
        return [("top", 0), ("end", 0)]
    inner = [(word, value) for word in ("first", "second") for value in range(schema.size)]
    return [("top", 0)] + inner + [("end", 0)]


def edges(stats, table):
    """Quintuples: from, to, first bound, second bound, and the cell of the edge or None."""
    schema, found = stats.schema, []
    for cell in cells(schema, table):
        ends = (("top", 0), ("end", 0)) if len(cell) == 1 else (("first", cell[0]), ("second", cell[1]))
        found.append(ends + bounds(stats, table, ("cell", cell)) + (cell,))
    if schema.widths[table] == 2:
        for value in range(schema.size):
            found.append((("top", 0), ("first", value)) + bounds(stats, table, ("value", 0, value)) + (None,))
            found.append((("second", value), ("end", 0)) + bounds(stats, table, ("value", 1, value)) + (None,))
    found.append((("end", 0), ("top", 0)) + bounds(stats, table, ("rows",)) + (None,))
    return found


def are_against(stats, table, some):
    """Whether nodes show that no table agrees."""
    into = sum(low for start, end, low, high, cell in edges(stats, table) if start not in some and end in some)
    out = sum(high for start, end, low, high, cell in edges(stats, table) if start in some and end not in some)
    return into > out


def every_group(items):
    """All tuples of some of the items, in their order."""
    return [group for many in range(len(items) + 1) for group in combinations(items, many)]


def weighted(counts, weights):
    return sum(count * weight for count, weight in zip(counts, weights))


def priced(stats, table, weights, prices, sign):
    """The sum of the products of rests and bounds, with weights of this sign as costs."""
    cost = {cell: sign * weight for cell, weight in zip(cells(stats.schema, table), weights)}
    total = 0
    for start, end, low, high, cell in edges(stats, table):
        rest = cost.get(cell, 0) + prices[start] - prices[end]
        total += rest * low if rest >= 0 else rest * high
    return total


def allowed(query, variable):
    for filtered, values in query.filters:
        if filtered == variable:
            return values
    return tuple(range(query.schema.size))


def variables(query):
    return len({variable for _, inner in query.atoms for variable in inner})


def assignments(query, data):
    """All assignments with their counts, those with the count 0 too."""
    rows = [dict(zip(cells(data.schema, table), data.tables[table])) for table in range(len(data.tables))]
    found = {}
    for values in product(*[allowed(query, variable) for variable in range(variables(query))]):
        count = 1
        for table, inner in query.atoms:
            count *= rows[table][tuple(values[variable] for variable in inner)]
        found[values] = count
    return found


def answer(query, data):
    sums = {}
    for values, count in assignments(query, data).items():
        told = tuple(values[variable] for variable in query.shown)
        sums[told] = sums.get(told, 0) + count
    return {told: sums[told] for told in sorted(sums) if sums[told] > 0}


def size(query, data):
    return sum(assignments(query, data).values())


def read_for(query, size_of_values):
    """The query for another number of values."""
    return Query(Schema(size_of_values, query.schema.widths), query.atoms, query.filters, query.shown)


def image(mapping, inner):
    return tuple(mapping[variable] for variable in inner)


def is_mapping(mapping, one, other):
    """Whether a mapping of the variables of `other` shows that `one` is within it."""
    if len(mapping) != variables(other) or any(not 0 <= item < variables(one) for item in mapping):
        return False
    if any((table, image(mapping, inner)) not in one.atoms for table, inner in other.atoms):
        return False
    return image(mapping, other.shown) == one.shown


def mappings_within(one, other):
    every = product(range(variables(one)), repeat=variables(other))
    return [mapping for mapping in every if is_mapping(mapping, one, other)]


def is_renaming(mapping, one, other):
    if len(mapping) != variables(one) or sorted(mapping) != list(range(variables(other))):
        return False
    renamed = sorted((table, image(mapping, inner)) for table, inner in one.atoms)
    return renamed == sorted(other.atoms) and image(mapping, one.shown) == other.shown


def renamings(one, other):
    if variables(one) != variables(other):
        return []
    return [mapping for mapping in permutations(range(variables(one))) if is_renaming(mapping, one, other)]


def kept_mappings(query, kept):
    """All mappings of a query to some of its own atoms that leave the shown variables."""
    targets = [query.atoms[index] for index in kept]
    found = []
    for mapping in product(range(variables(query)), repeat=variables(query)):
        inside = all((table, image(mapping, inner)) in targets for table, inner in query.atoms)
        if inside and image(mapping, query.shown) == query.shown:
            found.append(mapping)
    return found


def covers(query):
    """All covers, as ascending tuples."""
    every = every_group(range(len(query.atoms)))
    many = variables(query)
    return [group for group in every if len({item for at in group for item in query.atoms[at][1]}) == many]


def frozen(query):
    many = max(2, variables(query))
    schema = Schema(many, query.schema.widths)
    tables = []
    for table in range(len(schema.widths)):
        tables.append([int((table, cell) in query.atoms) for cell in cells(schema, table)])
    return Data(schema, tables)
