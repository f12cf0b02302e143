"""Queries that are within one another, and the fewest atoms with which a query shows the same."""

from surelyplan.errors import BadQuery, Unlike
from surelyplan.plain import are_between, index_groups, is_ascending
from surelyplan.queries import Query, answer, need_query, part_of
from surelyplan.schemas import LEAST_SIZE, Data, Schema, cell_place


class Within:
    """A variable of the first query for each variable of the second one: the first one is within the second one."""

    def __init__(self, mapping):
        self.mapping = tuple(mapping)

    def __eq__(self, other):
        return isinstance(other, Within) and self.mapping == other.mapping

    def shows(self, one, other):
        """Return whether the mapping leads from the second query to the first one."""
        need_alike(one, other)
        if len(self.mapping) != other.variables() or not are_between(self.mapping, 0, one.variables() - 1):
            return False
        return leads_to(self.mapping, other.atoms, one.atoms) and image_of(self.mapping, other.shown) == one.shown


class Beyond:
    """Data on which the first query shows a tuple that the second one does not show."""

    def __init__(self, data):
        self.data = data

    def __eq__(self, other):
        return isinstance(other, Beyond) and self.data == other.data

    def shows(self, one, other):
        """Return whether a tuple is in the answer of the first query and not in that of the second one."""
        need_alike(one, other)
        if self.data.schema.widths != one.schema.widths:
            return False
        shown = answer_on(other, self.data)
        return any([told not in shown for told in answer_on(one, self.data)])


class Leanest:
    """As few atoms as possible that show the same as the whole query, and a mapping that shows that they do."""

    def __init__(self, kept, mapping):
        self.kept = tuple(kept)
        self.mapping = tuple(mapping)

    def __eq__(self, other):
        return isinstance(other, Leanest) and self.kept == other.kept and self.mapping == other.mapping

    def shows(self, query):
        """Return whether the mapping leads to the kept atoms, and there are as few as possible."""
        need_no_filters(query)
        if not are_between(self.kept, 0, len(query) - 1) or not is_ascending(self.kept):
            return False
        if len(self.mapping) != query.variables() or not are_between(self.mapping, 0, query.variables() - 1):
            return False
        if image_of(self.mapping, query.shown) != query.shown or len(self.kept) != fewest_atoms(query):
            return False
        return leads_to(self.mapping, query.atoms, [query.atoms[index] for index in self.kept])


def judge_within(one, other):
    """Return a `Within` or a `Beyond`."""
    need_alike(one, other)
    mapping = _find_mapping(other, one.atoms, one.shown)
    if mapping is None:
        return Beyond(frozen(one))
    return Within(mapping)


def is_within(one, other):
    """Return whether the first query is within the second one."""
    return isinstance(judge_within(one, other), Within)


def show_same(one, other):
    """Return whether each query is within the other one."""
    return is_within(one, other) and is_within(other, one)


def frozen(query):
    """Return the frozen data of a query."""
    need_no_filters(query)
    return data_of_atoms(query, [1] * len(query))


def leanest(query):
    """Return a `Leanest`."""
    need_no_filters(query)
    kept = tuple(range(len(query)))
    for fewer in index_groups(len(query)):
        if len(fewer) < len(kept) and _map_to_some(query, fewer) is not None:
            kept = fewer
    return Leanest(kept, _map_to_some(query, kept))


def leanest_query(query):
    """Return the query with the kept atoms of a `Leanest`, its variables numbered anew."""
    kept = leanest(query).kept
    return part_of(query, kept)


def fewest_atoms(query):
    """Return the number of the kept atoms of a `Leanest`."""
    return len(leanest(query).kept)


def need_no_filters(query):
    """Raise an error unless an argument is a query without filters."""
    need_query(query)
    if query.filters != ():
        raise BadQuery("filters")


def need_alike(one, other):
    """Raise an error unless two arguments are queries that can be compared."""
    need_no_filters(one)
    need_no_filters(other)
    if one.schema != other.schema or len(one.shown) != len(other.shown):
        raise Unlike("the schemas or the numbers of shown variables are different")


def answer_on(query, data):
    """Return the answer of a query on data that may have another number of values."""
    return answer(Query(data.schema, query.atoms, (), query.shown), data)


def data_of_atoms(query, counts):
    """Return data whose values are the variables of a query, with so many rows for each atom."""
    schema = Schema(max(query.variables(), LEAST_SIZE), query.schema.widths)
    tables = [[0] * len(schema.cells(table)) for table in range(len(schema))]
    for (table, variables), count in zip(query.atoms, counts):
        tables[table][cell_place(schema.size, variables)] = count
    return Data(schema, tables)


def image_of(mapping, variables):
    """Return the tuple of the images of some variables."""
    return tuple([mapping[variable] for variable in variables])


def leads_to(mapping, atoms, targets):
    """Return whether the image of each atom is one of the targets."""
    return all([(table, image_of(mapping, variables)) in targets for table, variables in atoms])


def _map_to_some(query, indices):
    """Return a mapping of a query to some of its own atoms that leaves the shown variables, or None."""
    return _find_mapping(query, [query.atoms[index] for index in indices], query.shown)


def _find_mapping(query, targets, shown):
    """Return a mapping of a query by which its atoms become targets and its shown variables those, or None."""
    images = [None] * query.variables()
    for variable, image in zip(query.shown, shown):
        images[variable] = image
    return _map_atoms(query.atoms, targets, images)


def _map_atoms(atoms, targets, images):
    if atoms == ():
        return tuple(images)
    for target in targets:
        longer = _with_atom(atoms[0], target, images)
        found = None if longer is None else _map_atoms(atoms[1:], targets, longer)
        if found is not None:
            return found
    return None


def _with_atom(atom, target, images):
    """Return the images by which an atom becomes a target as well, or None if there are none."""
    if atom[0] != target[0]:
        return None
    images = list(images)
    for variable, image in zip(atom[1], target[1]):
        if images[variable] not in (None, image):
            return None
        images[variable] = image
    return images
