"""Expressions: tables, filtered, joined and put together, and their answers on data."""

from surelyplan.errors import BadExpression, TooLarge, Unlike
from surelyplan.plain import are_between, is_ascending, is_between
from surelyplan.queries import need_query
from surelyplan.schemas import need_data, need_schema

MOST_WORDS = 16
MOST_COLUMNS = 8

CONDITIONS = ("filter", "same")


def columns(schema, expression):
    """Return the number of columns of an expression."""
    need_schema(schema)
    need_expression(schema, expression)
    return count_columns(schema, expression)


def evaluate(data, expression):
    """Return a dict from the rows of an expression, ascending, to their counts above 0."""
    need_data(data)
    need_expression(data.schema, expression)
    found = _rows(data, expression, [], tuple(range(count_columns(data.schema, expression))))
    # Most rows come about in ascending order, and millions of them are not put into a dict twice.
    if is_ascending(list(found)):
        return found
    return {row: found[row] for row in sorted(found)}


def expression_of(query):
    """Return the expression of a query."""
    need_query(query)
    firsts, repeated = _columns_of_variables(query)
    if 2 * len(query) + len(repeated) + len(query.filters) > MOST_WORDS:
        raise TooLarge("more than 16 words")
    expression = ("table", query.atoms[0][0])
    for table, _ in query.atoms[1:]:
        expression = ("join", expression, ("table", table))
    for first, column in repeated:
        expression = ("same", first, column, expression)
    for variable, values in query.filters:
        expression = ("filter", firsts[variable], values, expression)
    return ("keep", tuple([firsts[variable] for variable in query.shown]), expression)


def need_expression(schema, expression):
    """Raise an error unless an argument is an expression for the schema."""
    if _measure(schema, expression, MOST_WORDS) is None:
        raise BadExpression("not an expression for the schema")


def need_two(schema, one, other):
    """Raise an error unless arguments are a schema and two expressions for it with the same number of columns."""
    need_schema(schema)
    need_expression(schema, one)
    need_expression(schema, other)
    if count_columns(schema, one) != count_columns(schema, other):
        raise Unlike("the expressions have different numbers of columns")


def count_columns(schema, expression):
    """Return the number of columns of what is known to be an expression."""
    word = expression[0]
    if word == "table":
        return schema.widths[expression[1]]
    if word == "keep":
        return len(expression[1])
    if word == "join":
        return count_columns(schema, expression[1]) + count_columns(schema, expression[2])
    return count_columns(schema, expression[-1])


def fulfils(row, condition):
    """Return whether a row has a value that a filter keeps, or equal values where it must have the same ones."""
    if condition[0] == "filter":
        return row[condition[1]] in condition[2]
    return row[condition[1]] == row[condition[2]]


def condition_columns(condition):
    """Return the tuple of the columns of a condition."""
    if condition[0] == "filter":
        return condition[1:2]
    return condition[1:3]


def move_condition(condition, places):
    """Return a condition on other columns: those at its columns in a list of places, the smaller one first."""
    if condition[0] == "filter":
        return ("filter", places[condition[1]], condition[2])
    first, last = places[condition[1]], places[condition[2]]
    return ("same", min(first, last), max(first, last))


def _columns_of_variables(query):
    """Return a dict from variables to their first columns, and the list of pairs of such a column and a later one."""
    firsts, repeated = {}, []
    for column, variable in enumerate([variable for atom in query.atoms for variable in atom[1]]):
        if variable in firsts:
            repeated.append((firsts[variable], column))
        else:
            firsts[variable] = column
    return firsts, repeated


def _measure(schema, value, most):
    """Return the numbers of columns and words of an expression with at most so many words, or None for another value.

    No more than these words are looked at, so a value that is nested too deep, or in itself, comes to an end.
    """
    if most < 1 or not isinstance(value, tuple) or len(value) < 2 or not isinstance(value[0], str):
        return None
    word = value[0]
    if word == "table" and len(value) == 2:
        return (schema.widths[value[1]], 1) if is_between(value[1], 0, len(schema) - 1) else None
    if word in ("join", "both") and len(value) == 3:
        return _measure_two(schema, value, most)
    if word == "keep" and len(value) == 3 or word in CONDITIONS and len(value) == 4:
        inner = _measure(schema, value[-1], most - 1)
        if inner is None or not _are_items(schema, value, inner[0]):
            return None
        return (len(value[1]) if word == "keep" else inner[0]), inner[1] + 1
    return None


def _measure_two(schema, value, most):
    first = _measure(schema, value[1], most - 2)
    if first is None:
        return None
    second = _measure(schema, value[2], most - 1 - first[1])
    if second is None:
        return None
    words = first[1] + second[1] + 1
    if value[0] == "both":
        return (first[0], words) if first[0] == second[0] else None
    many = first[0] + second[0]
    return (many, words) if many <= MOST_COLUMNS else None


def _are_items(schema, value, many):
    """Return whether the items of a keep or a condition are right for an expression with so many columns."""
    if value[0] == "same":
        return is_between(value[2], 0, many - 1) and is_between(value[1], 0, value[2] - 1)
    if value[0] == "keep":
        kept = value[1]
        return isinstance(kept, tuple) and are_between(kept, 0, many - 1) and len(set(kept)) == len(kept)
    column, values = value[1], value[2]
    if not is_between(column, 0, many - 1) or not isinstance(values, tuple):
        return False
    return are_between(values, 0, schema.size - 1) and is_ascending(values)


def _rows(data, expression, conditions, wanted):
    """Return a dict from the values in wanted columns, of the rows that fulfil conditions, to their counts above 0.

    Conditions and wanted columns go down to the tables, so that few rows and few columns are joined.
    """
    word = expression[0]
    if word == "table":
        return _table_rows(data, expression[1], conditions, wanted)
    if word in CONDITIONS:
        return _rows(data, expression[3], conditions + [expression[:3]], wanted)
    if word == "keep":
        moved = [move_condition(condition, expression[1]) for condition in conditions]
        return _rows(data, expression[2], moved, tuple([expression[1][column] for column in wanted]))
    if word == "both":
        rows = _rows(data, expression[1], conditions, wanted)
        more = _rows(data, expression[2], conditions, wanted)
        for row, count in more.items():
            rows[row] = rows.get(row, 0) + count
        return rows
    return _joined(data, expression, conditions, wanted)


def _table_rows(data, table, conditions, wanted):
    rows = {}
    for cell, count in data.filled(table):
        if all([fulfils(cell, condition) for condition in conditions]):
            row = tuple([cell[column] for column in wanted])
            rows[row] = rows.get(row, 0) + count
    # In ascending order, so that rows joined from these mostly come about in it, too.
    return {row: rows[row] for row in sorted(rows)}


def _joined(data, expression, conditions, wanted):
    """Return the rows of a join, as _rows does."""
    many = count_columns(data.schema, expression[1])
    left = [condition for condition in conditions if max(condition_columns(condition)) < many]
    right = [condition for condition in conditions if min(condition_columns(condition)) >= many]
    links = [condition for condition in conditions if condition not in left and condition not in right]
    needed = wanted + tuple([column for link in links for column in condition_columns(link)])
    lefts = _different([column for column in needed if column < many])
    rights = _different([column - many for column in needed if column >= many])
    shift = [column - many for column in range(many + MOST_COLUMNS)]
    one = _rows(data, expression[1], left, lefts)
    other = _rows(data, expression[2], [move_condition(condition, shift) for condition in right], rights)
    behind = tuple([column + many for column in rights])
    if links == [] and wanted == lefts + behind:
        return {row + more: count * times for row, count in one.items() for more, times in other.items()}
    if links == [] and wanted == behind + lefts:
        return {more + row: count * times for more, times in other.items() for row, count in one.items()}
    order = lefts + behind
    places = [order.index(column) for column in wanted]
    owns = [lefts.index(link[1]) for link in links]
    theirs = [rights.index(link[2] - many) for link in links]
    return _linked(one, other, owns, theirs, places)


def _different(columns):
    """Return the tuple of the different columns of a list, in its order."""
    return tuple([column for place, column in enumerate(columns) if column not in columns[:place]])


def _linked(one, other, owns, theirs, places):
    """Return the rows that two kinds of rows make where linked values are equal, with the values at some places."""
    partners = {}
    for row, count in other.items():
        partners.setdefault(tuple([row[place] for place in theirs]), []).append((row, count))
    rows = {}
    for row, count in one.items():
        for more, times in partners.get(tuple([row[place] for place in owns]), []):
            whole = row + more
            made = tuple([whole[place] for place in places])
            rows[made] = rows.get(made, 0) + count * times
    return rows
