"""What steps of plans cost over combinations of tables; what depends on the same tables is found once."""

from itertools import permutations

from surelyplan.joining import fitting_cells, join_rows, no_atoms, rows_with
from surelyplan.notes import value_on
from surelyplan.plain import all_tuples, index_groups
from surelyplan.queries import used_tables

SIDES = ("left", "right")


class Cases:
    """All combinations of some tables for a query, and what steps and plans cost on them.

    A combination is a tuple with the index of the chosen counts for each table of the query. A step is a pair of the
    ascending atoms before it and the atom that follows them. What it costs depends on the tables of these atoms.
    """

    def __init__(self, query, choices):
        tables = used_tables(query)
        self.query = query
        self.choices = choices
        self.combinations = all_tuples([list(range(len(choice))) for choice in choices])
        self.spots = {table: spot for spot, table in enumerate(tables)}
        indices = list(range(len(query)))
        self.parts = {group: self._part_of(group) for group in index_groups(len(query))}
        steps = [(group, index) for group in self.parts for index in indices if index not in group]
        self.ways = {step: possible_ways(query, step[0], step[1]) for step in steps}
        self.orders = [_steps_of(order) for order in permutations(indices)]
        self.fitting = [fitting_cells(query, index) for index in range(len(query))]
        self.found_rows = {}
        self.found_costs = {}
        self.found_regrets = {}

    def chosen_counts(self, table, chosen):
        """Return the counts of a table of the query in a combination."""
        spot = self.spots[table]
        return self.choices[spot][chosen[spot]]

    def step_costs(self, step, chosen):
        """Return a dict from the possible ways of a step, ascending, to its costs."""
        before, index = step
        group = with_index(before, index)
        key = (step, tuple([chosen[spot] for spot in self.parts[group]]))
        if key not in self.found_costs:
            counts = self.chosen_counts(self.query.atoms[index][0], chosen)
            rows, made = self._rows_of(before, chosen), self._rows_of(group, chosen).many
            self.found_costs[key] = {
                way: made + rows_read(self.query, counts, rows, index, way) for way in self.ways[step]
            }
        return self.found_costs[key]

    def plan_cost(self, plan, chosen):
        """Return the cost of a plan."""
        steps = _steps_of(plan.order)
        return sum([self.step_costs(step, chosen)[way] for step, way in zip(steps, plan.ways)])

    def regrets(self, chosen):
        """Return the list of the regrets of all plans, in their order."""
        if chosen not in self.found_regrets:
            costs = {step: list(self.step_costs(step, chosen).values()) for step in self.ways}
            totals = []
            for order in self.orders:
                sums = [0]
                for step in order:
                    sums = [total + cost for total in sums for cost in costs[step]]
                totals.extend(sums)
            least = min(totals)
            self.found_regrets[chosen] = [total - least for total in totals]
        return self.found_regrets[chosen]

    def _part_of(self, group):
        """Return the list of the places in a combination of the tables of some atoms."""
        return sorted({self.spots[self.query.atoms[index][0]] for index in group})

    def _rows_of(self, group, chosen):
        key = (group, tuple([chosen[spot] for spot in self.parts[group]]))
        if key not in self.found_rows:
            self.found_rows[key] = self._joined(group, chosen)
        return self.found_rows[key]

    def _joined(self, group, chosen):
        if group == ():
            return no_atoms()
        if len(group) > 1:
            return join_rows(self._rows_of(group[:-1], chosen), self._rows_of(group[-1:], chosen))
        table, variables = self.query.atoms[group[0]]
        return rows_with(variables, self.fitting[group[0]], self.chosen_counts(table, chosen))


def possible_ways(query, before, index):
    """Return the ascending list of the ways of an atom that follows others."""
    if before == ():
        return ["scan"]
    known = [variable for other in before for variable in query.atoms[other][1]]
    sides = [side for side, variable in zip(SIDES, query.atoms[index][1]) if variable in known]
    return ["gather"] + sides + ["scan"]


def rows_read(query, counts, before, index, way):
    """Return the number of rows that an atom, with the counts of its table, reads if it follows the rows before it."""
    table, variables = query.atoms[index]
    if way == "scan":
        return before.many * sum(counts)
    if way == "gather":
        return before.many + sum(counts)
    column = SIDES.index(way)
    sums = before.sums_of(variables[column])
    return sum([sums[value] * value_on(query.schema, table, ("value", column, value), counts) for value in sums])


def with_index(group, index):
    """Return the ascending tuple of some atoms and another one."""
    return tuple(sorted(group + (index,)))


def _steps_of(order):
    """Return the list of the steps of an order."""
    return [(tuple(sorted(order[:step])), index) for step, index in enumerate(order)]
