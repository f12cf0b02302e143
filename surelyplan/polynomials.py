"""Polynomials of expressions: the counts of their rows on all data, and which expressions are equal."""

from surelyplan.errors import TooLarge
from surelyplan.expressions import CONDITIONS, evaluate, fulfils, need_expression, need_two
from surelyplan.plain import is_integer
from surelyplan.schemas import MOST_COUNT, Data, cell_place, need_schema

MOST_VALUES = 3
MOST_TERMS = 3000


class Equal:
    """The polynomials that two expressions have."""

    def __init__(self, rows):
        self.rows_by = {row: {term: rows[row][term] for term in rows[row]} for row in rows}

    def __eq__(self, other):
        return isinstance(other, Equal) and self.rows_by == other.rows_by

    def shows(self, schema, one, other):
        """Return whether both expressions have these polynomials."""
        found, more = _both_polynomials(schema, one, other)
        if found != more or self.rows_by != found:
            return False
        return all([_is_plain(row) and _is_plain_polynomial(self.rows_by[row]) for row in self.rows_by])


class Unequal:
    """Data on which two expressions have different answers."""

    def __init__(self, data):
        self.data = data

    def __eq__(self, other):
        return isinstance(other, Unequal) and self.data == other.data

    def shows(self, schema, one, other):
        """Return whether the answers are different on the data."""
        need_two(schema, one, other)
        _need_few_values(schema)
        return self.data.schema == schema and evaluate(self.data, one) != evaluate(self.data, other)


def polynomials(schema, expression):
    """Return a dict from the rows of an expression, ascending, to their polynomials."""
    need_schema(schema)
    need_expression(schema, expression)
    _need_few_values(schema)
    return _spelled_out(schema, _numbered(schema, expression))


def degree(schema, expression):
    """Return the greatest length of a term of an expression, 0 if there is none."""
    lengths = [len(term) for terms in polynomials(schema, expression).values() for term in terms]
    return max(lengths + [0])


def value_on(terms, data):
    """Return the value of a polynomial on data."""
    total = 0
    for term, factor in terms.items():
        for table, cell in term:
            factor *= data.tables[table][cell_place(data.schema.size, cell)]
        total += factor
    return total


def judge_equal(schema, one, other):
    """Return an `Equal`, or an `Unequal` with data on which the answers of two expressions are different."""
    found, more = _both_polynomials(schema, one, other)
    if found == more:
        return Equal(found)
    for row in list(found) + list(more):
        terms = _difference(found.get(row, {}), more.get(row, {}))
        if terms != {}:
            return Unequal(_data_with(schema, _counts_not_zero(terms)))


def are_equal(schema, one, other):
    """Return whether two expressions have the same answer on all data of the schema."""
    return isinstance(judge_equal(schema, one, other), Equal)


def _need_few_values(schema):
    if schema.size > MOST_VALUES:
        raise TooLarge("more than three values")


def _both_polynomials(schema, one, other):
    need_two(schema, one, other)
    return polynomials(schema, one), polynomials(schema, other)


def _all_cells(schema):
    """Return the ascending list of the pairs of a table and a cell; inside this file, cells are its indices."""
    return [(table, cell) for table in range(len(schema)) for cell in schema.cells(table)]


def _spelled_out(schema, rows):
    """Return polynomials with pairs of a table and a cell in place of their indices, all in ascending order."""
    cells = _all_cells(schema)
    return {
        row: {tuple([cells[index] for index in term]): rows[row][term] for term in sorted(rows[row])}
        for row in sorted(rows)
    }


def _numbered(schema, expression):
    """Return a dict from the rows of an expression to their polynomials, whose terms have indices of cells."""
    word = expression[0]
    if word == "table":
        cells = _all_cells(schema)
        return {cell: {(index,): 1} for index, (table, cell) in enumerate(cells) if table == expression[1]}
    if word in CONDITIONS:
        rows = _numbered(schema, expression[3])
        return {row: rows[row] for row in rows if fulfils(row, expression[:3])}
    if word == "keep":
        rows = _numbered(schema, expression[2])
        return _limited(_summed([(tuple([row[column] for column in expression[1]]), rows[row]) for row in rows]))
    rows, more = _numbered(schema, expression[1]), _numbered(schema, expression[2])
    if word == "both":
        return _limited(_summed(list(rows.items()) + list(more.items())))
    return _joined(rows, more)


def _summed(pairs):
    """Return a dict from rows to the sums of their polynomials, for pairs of a row and a polynomial."""
    rows = {}
    for row, terms in pairs:
        total = rows.setdefault(row, {})
        for term, factor in terms.items():
            total[term] = total.get(term, 0) + factor
    return rows


def _limited(rows):
    if sum([len(terms) for terms in rows.values()]) > MOST_TERMS:
        raise TooLarge("more than 3000 terms")
    return rows


def _joined(rows, more):
    joined, left = {}, MOST_TERMS
    for row, terms in rows.items():
        for other, factors in more.items():
            joined[row + other] = _product(terms, factors, left)
            left -= len(joined[row + other])
    return joined


def _product(one, other, most):
    """Return the product of two polynomials, which has at most so many terms.

    All factors are above 0, so no term goes away again: what is too much at any time is too much in the end.
    """
    terms = {}
    for term, factor in one.items():
        for more, times in other.items():
            longer = tuple(sorted(term + more))
            terms[longer] = terms.get(longer, 0) + factor * times
        if len(terms) > most:
            raise TooLarge("more than 3000 terms")
    return terms


def _difference(one, other):
    """Return the dict of the factors other than 0 of the difference of two polynomials."""
    terms = [term for term in one] + [term for term in other if term not in one]
    factors = {term: one.get(term, 0) - other.get(term, 0) for term in terms}
    return {term: factors[term] for term in terms if factors[term] != 0}


def _counts_not_zero(terms):
    """Return a dict from cells to counts on which a polynomial with some term is not 0; other cells have no rows.

    No cell occurs more than eight times in a term, so one of the counts from 0 to 9 leaves some term.
    """
    counts = {}
    for pair in sorted({pair for term in terms for pair in term}):
        for count in range(MOST_COUNT + 1):
            rest = _put_in(terms, pair, count)
            if rest != {}:
                counts[pair] = count
                break
        terms = rest
    return counts


def _put_in(terms, pair, count):
    """Return a polynomial in which a count is put in for a cell."""
    rest = {}
    for term, factor in terms.items():
        left = tuple([other for other in term if other != pair])
        for _ in range(len(term) - len(left)):
            factor *= count
        rest[left] = rest.get(left, 0) + factor
    return {term: rest[term] for term in rest if rest[term] != 0}


def _data_with(schema, counts):
    tables = [[counts.get((table, cell), 0) for cell in schema.cells(table)] for table in range(len(schema))]
    return Data(schema, tables)


def _is_plain(value):
    """Return whether all values inside tuples are integers."""
    if isinstance(value, tuple):
        return all([_is_plain(item) for item in value])
    return is_integer(value)


def _is_plain_polynomial(terms):
    return all([_is_plain(term) and is_integer(terms[term]) for term in terms])
