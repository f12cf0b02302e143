"""Sizes of answers over all data that agree with statistics, and covers that bound them."""

from surelyplan.errors import TooLarge
from surelyplan.networks import first_counts, list_counts, quantity_ends
from surelyplan.notes import ROWS
from surelyplan.plain import all_tuples, are_between, index_groups, is_ascending
from surelyplan.queries import answer_size, need_query, need_same_schema, used_tables
from surelyplan.schemas import Data, cell_place
from surelyplan.statistics import MOST_LISTED, agree, need_agreeing, need_statistics


class SizeEnds:
    """Agreeing data with the smallest and with the greatest size of the answer."""

    def __init__(self, least, greatest):
        self.least = least
        self.greatest = greatest

    def __eq__(self, other):
        return isinstance(other, SizeEnds) and self.least == other.least and self.greatest == other.greatest

    def shows(self, stats, query):
        """Return whether the data agree with the notes and have the smallest and the greatest size."""
        ends = size_ends(stats, query)
        if self.least.schema != stats.schema or self.greatest.schema != stats.schema:
            return False
        if not agree(stats, self.least) or not agree(stats, self.greatest):
            return False
        return ends == (answer_size(query, self.least), answer_size(query, self.greatest))


class Covered:
    """Atoms that together have all variables, with the smallest possible bound."""

    def __init__(self, atoms):
        self.atoms = tuple(atoms)

    def __eq__(self, other):
        return isinstance(other, Covered) and self.atoms == other.atoms

    def shows(self, stats, query):
        """Return whether the atoms are a cover with the smallest possible bound."""
        networks = check_notes_and_query(stats, query)
        if not are_between(self.atoms, 0, len(query) - 1) or not is_ascending(self.atoms):
            return False
        if not _covers(query, self.atoms):
            return False
        factors = _factors(networks, query)
        return _bound(factors, self.atoms) == _bound(factors, _best_cover(query, factors))


def size_ends(stats, query):
    """Return the pair of the smallest and the greatest size of the answer."""
    least, greatest = _sizes_and_counts(check_notes_and_query(stats, query), query)
    return least[0], greatest[0]


def reach_sizes(stats, query):
    """Return a `SizeEnds`: agreeing data with the smallest and with the greatest size of the answer."""
    networks = check_notes_and_query(stats, query)
    least, greatest = _sizes_and_counts(networks, query)
    counts = some_counts(networks)
    return SizeEnds(data_with(query, counts, least[1]), data_with(query, counts, greatest[1]))


def cover(stats, query):
    """Return a `Covered`: a cover of a query with the smallest possible bound."""
    networks = check_notes_and_query(stats, query)
    return Covered(_best_cover(query, _factors(networks, query)))


def cover_bound(stats, query):
    """Return the smallest possible bound of a cover."""
    factors = _factors(check_notes_and_query(stats, query), query)
    return _bound(factors, _best_cover(query, factors))


def check_notes_and_query(stats, query):
    """Raise an error unless arguments are statistics with agreeing data, and a query with the same schema.

    Return the list of the networks of all tables.
    """
    need_statistics(stats)
    need_query(query)
    need_same_schema(stats, query)
    return need_agreeing(stats)


def _sizes_and_counts(networks, query):
    """Return the smallest and the greatest size, each one with the counts of the used tables that lead to it."""
    tables = used_tables(query)
    choices = table_choices(networks, tables, MOST_LISTED)
    return _reach(_terms(query, tables), choices)


def table_choices(networks, tables, most):
    """Return the lists of the agreeing counts of some tables, of which there are at most so many combinations.

    No more tables are listed than are needed to know that there are too many combinations.
    """
    choices = []
    for table in tables:
        choice = list_counts(networks[table], most)
        if len(choice) > most:
            raise TooLarge("too many combinations of tables")
        most = most // len(choice)
        choices.append(choice)
    return choices


def _terms(query, tables):
    """Return the size as a sum: a dict from tuples, with the cells that count in each table, to how often they do.

    Assignments with the same cells are put together, since there are many assignments, but few such terms.
    """
    terms = {}
    for row in all_tuples([query.allowed(variable) for variable in range(query.variables())]):
        term = tuple([_places_in(query, table, row) for table in tables])
        terms[term] = terms.get(term, 0) + 1
    return terms


def _places_in(query, table, row):
    atoms = [atom for atom in query.atoms if atom[0] == table]
    size = query.schema.size
    return tuple(sorted([cell_place(size, [row[variable] for variable in atom[1]]) for atom in atoms]))


def _reach(terms, choices):
    """Return the smallest and the greatest value of a sum, each one with the counts that lead to it."""
    if choices == []:
        value = terms.get((), 0)
        return (value, ()), (value, ())
    least, greatest = None, None
    for counts in choices[0]:
        low, high = _reach(_put_in(terms, counts), choices[1:])
        if least is None or low[0] < least[0]:
            least = (low[0], (counts,) + low[1])
        if greatest is None or high[0] > greatest[0]:
            greatest = (high[0], (counts,) + high[1])
    return least, greatest


def _put_in(terms, counts):
    """Return a sum with the counts of the first of its tables put in."""
    rest = {}
    for term in terms:
        value = terms[term]
        for place in term[0]:
            value *= counts[place]
        if value > 0:
            rest[term[1:]] = rest.get(term[1:], 0) + value
    return rest


def some_counts(networks):
    """Return a list with the counts of an agreeing table for each table."""
    return [first_counts(network) for network in networks]


def data_with(query, counts, chosen):
    """Return data with some counts, and chosen counts of the used tables."""
    counts = list(counts)
    for table, told in zip(used_tables(query), chosen):
        counts[table] = told
    return Data(query.schema, counts)


def _covers(query, atoms):
    return len({variable for atom in atoms for variable in query.atoms[atom][1]}) == query.variables()


def _factors(networks, query):
    """Return, for each atom, the pair of the greatest number of rows of its table and of one of its cells."""
    most = {}
    for table in used_tables(query):
        quantities = [ROWS] + [("cell", cell) for cell in query.schema.cells(table)]
        ends = [quantity_ends(networks[table], query.schema, table, quantity)[1] for quantity in quantities]
        most[table] = (ends[0], max(ends[1:]))
    return [most[atom[0]] for atom in query.atoms]


def _bound(factors, atoms):
    bound = 1
    for atom, (rows, count) in enumerate(factors):
        bound *= rows if atom in atoms else count
    return bound


def _best_cover(query, factors):
    """Return a cover with the smallest possible bound."""
    best = tuple(range(len(query)))
    for atoms in index_groups(len(query)):
        if _covers(query, atoms) and _bound(factors, atoms) < _bound(factors, best):
            best = atoms
    return best
