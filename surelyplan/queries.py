"""Queries, and their answers on data."""

from surelyplan.errors import BadPlan, BadQuery, Unlike
from surelyplan.plain import are_between, is_ascending, is_between, is_group
from surelyplan.schemas import cell_place, need_data, need_schema

MOST_ATOMS = 4
MOST_VARIABLE = 5


class Query:
    """Atoms that join tables of a schema, filters for their variables, and the variables to show."""

    def __init__(self, schema, atoms, filters, shown):
        need_schema(schema)
        if not _are_atoms(schema, atoms):
            raise BadQuery("atoms")
        many = count_variables(atoms)
        if not _are_filters(schema, many, filters):
            raise BadQuery("filters")
        if not _are_shown(many, shown):
            raise BadQuery("shown")
        self.schema = schema
        self.atoms = atoms
        self.filters = filters
        self.shown = shown

    def __eq__(self, other):
        if not isinstance(other, Query) or self.schema != other.schema:
            return False
        return self.atoms == other.atoms and self.filters == other.filters and self.shown == other.shown

    def __len__(self):
        return len(self.atoms)

    def variables(self):
        """Return the number of variables."""
        return count_variables(self.atoms)

    def allowed(self, variable):
        """Return the ascending list of the values that are allowed for a variable."""
        for filtered, values in self.filters:
            if filtered == variable:
                return list(values)
        return list(range(self.schema.size))


def need_query(query):
    """Raise an error unless an argument is a query."""
    if not isinstance(query, Query):
        raise BadQuery(None)


def need_same_schema(one, other):
    """Raise an error unless two arguments have the same schema."""
    if one.schema != other.schema:
        raise Unlike("the schemas are different")


def check_query_and_data(query, data):
    """Raise an error unless arguments are a query and data with the same schema."""
    need_query(query)
    need_data(data)
    need_same_schema(query, data)


def is_order(query, order):
    """Return whether a value is an order of a query: a tuple with each index of an atom exactly once."""
    many = len(query)
    return is_group(order, many) and are_between(order, 0, many - 1) and len(set(order)) == many


def need_order(query, order):
    """Raise an error unless an argument is an order of a query."""
    if not is_order(query, order):
        raise BadPlan("not a tuple with each index of an atom exactly once")


def part_of(query, indices):
    """Return the query with some of its atoms alone, its variables numbered anew in the order of their numbers."""
    atoms = [query.atoms[index] for index in indices]
    variables = sorted({variable for atom in atoms for variable in atom[1]})
    numbers = {variable: number for number, variable in enumerate(variables)}
    renamed = tuple([(table, tuple([numbers[old] for old in inner])) for table, inner in atoms])
    filters = tuple([(numbers[variable], values) for variable, values in query.filters if variable in numbers])
    shown = tuple([numbers[variable] for variable in query.shown if variable in numbers])
    return Query(query.schema, renamed, filters, shown)


def used_tables(query):
    """Return the ascending list of the tables of the atoms of a query."""
    return sorted({atom[0] for atom in query.atoms})


def count_variables(atoms):
    """Return the number of variables from 0 to the greatest one of some atoms."""
    return 1 + max([max(atom[1]) for atom in atoms])


def assignments(query, data):
    """Return a dict from the values of all variables to the counts above 0 of the assignments."""
    check_query_and_data(query, data)
    found = {(): 1}
    for variable in range(query.variables()):
        found = _with_variable(query, data, found, variable)
    return found


def answer(query, data):
    """Return a dict from the values of the shown variables to the sums of the counts."""
    counts = assignments(query, data)
    sums = {}
    for values in counts:
        told = tuple([values[variable] for variable in query.shown])
        sums[told] = sums.get(told, 0) + counts[values]
    return {told: sums[told] for told in sorted(sums)}


def answer_size(query, data):
    """Return the sum of all counts of the answer."""
    counts = assignments(query, data)
    return sum(counts.values())


def _with_variable(query, data, found, variable):
    # An atom counts as soon as its last variable has a value, so few assignments in vain are made.
    atoms = [atom for atom in query.atoms if max(atom[1]) == variable]
    allowed = query.allowed(variable)
    longer = {}
    for values in found:
        for value in allowed:
            row = values + (value,)
            count = found[values] * _count_of_row(data, atoms, row)
            if count > 0:
                longer[row] = count
    return longer


def _count_of_row(data, atoms, row):
    count = 1
    for table, variables in atoms:
        count *= data.tables[table][cell_place(data.schema.size, [row[variable] for variable in variables])]
    return count


def _are_atoms(schema, atoms):
    if not isinstance(atoms, tuple) or not 1 <= len(atoms) <= MOST_ATOMS:
        return False
    if not all([_is_atom(schema, atom) for atom in atoms]) or len(set(atoms)) < len(atoms):
        return False
    used = sorted({variable for atom in atoms for variable in atom[1]})
    return used == list(range(len(used)))


def _is_atom(schema, atom):
    if not is_group(atom, 2) or not is_between(atom[0], 0, len(schema) - 1):
        return False
    return is_group(atom[1], schema.widths[atom[0]]) and are_between(atom[1], 0, MOST_VARIABLE)


def _are_filters(schema, many, filters):
    if not isinstance(filters, tuple) or not all([_is_filter(schema, many, pair) for pair in filters]):
        return False
    return is_ascending([pair[0] for pair in filters])


def _is_filter(schema, many, pair):
    if not is_group(pair, 2) or not is_between(pair[0], 0, many - 1) or not isinstance(pair[1], tuple):
        return False
    return are_between(pair[1], 0, schema.size - 1) and is_ascending(pair[1])


def _are_shown(many, shown):
    if not isinstance(shown, tuple) or not are_between(shown, 0, many - 1):
        return False
    return len(set(shown)) == len(shown)
