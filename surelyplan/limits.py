"""Joins within little memory: the rows that steps move, and the orders that move the fewest."""

from itertools import permutations

from surelyplan.errors import BadNumber
from surelyplan.joining import joined_rows
from surelyplan.plain import index_groups, is_between
from surelyplan.queries import check_query_and_data, need_order
from surelyplan.sorting import LEAST_MEMORY, MOST_MEMORY, MOST_ROWS, need_memory, sort_cost

MOST_MOVED = 9999


def step_moves(query, order, step, data, memory):
    """Return a dict from the possible ways of a step of an order to the numbers of rows that it moves."""
    check_query_and_data(query, data)
    need_order(query, order)
    if not is_between(step, 1, len(query) - 1):
        raise BadNumber("not a step behind the first one")
    need_memory(memory)
    before = order[:step]
    return _moves(query, data, before, order[step], joined_rows(query, data, before).many, memory)


def order_moves(query, order, data, memory):
    """Return the least cost of an order with a memory."""
    check_query_and_data(query, data)
    need_order(query, order)
    need_memory(memory)
    groups = [tuple(sorted(order[:step])) for step in range(1, len(query))]
    sizes = {group: joined_rows(query, data, group).many for group in groups}
    return _order_cost(query, data, order, _step_costs(query, data, sizes, memory))


def least_moves(query, data, memory):
    """Return the least cost of all orders with a memory."""
    check_query_and_data(query, data)
    need_memory(memory)
    return _least_cost(query, data, _group_sizes(query, data), memory)


def memory_needed(query, data, most):
    """Return the least memory with which some order costs no more than a number, or None."""
    check_query_and_data(query, data)
    if not is_between(most, 0, MOST_MOVED):
        raise BadNumber("not an integer from 0 to 9999")
    sizes = _group_sizes(query, data)
    for memory in range(LEAST_MEMORY, MOST_MEMORY + 1):
        if _least_cost(query, data, sizes, memory) <= most:
            return memory
    return None


def _moves(query, data, before, index, left, memory):
    """Return the numbers of rows that a step moves in each way, from the number of the rows before it."""
    table, variables = query.atoms[index]
    right = data.rows(table)
    filling = memory - 2
    moves = {"nested": left + right * ((left + filling - 1) // filling)}
    known = [variable for other in before for variable in query.atoms[other][1]]
    if any([variable in known for variable in variables]) and max(left, right) <= MOST_ROWS:
        moves["sorted"] = sort_cost(left, memory) + sort_cost(right, memory) + left + right
    return moves


def _group_sizes(query, data):
    """Return a dict from the ascending tuples of some atoms, not of all and none, to the numbers of their rows."""
    groups = [group for group in index_groups(len(query)) if 0 < len(group) < len(query)]
    return {group: joined_rows(query, data, group).many for group in groups}


def _step_costs(query, data, sizes, memory):
    """Return a dict from pairs of ascending atoms, and an atom that follows them, to the least cost of the step."""
    costs = {}
    for before in sizes:
        for index in range(len(query)):
            if index not in before:
                moves = _moves(query, data, before, index, sizes[before], memory)
                costs[(before, index)] = min(moves.values())
    return costs


def _order_cost(query, data, order, costs):
    total = data.rows(query.atoms[order[0]][0])
    for step in range(1, len(order)):
        total += costs[(tuple(sorted(order[:step])), order[step])]
    return total


def _least_cost(query, data, sizes, memory):
    costs = _step_costs(query, data, sizes, memory)
    return min([_order_cost(query, data, order, costs) for order in permutations(range(len(query)))])
