"""Plans of queries, what they cost on data, and cheapest plans."""

from itertools import permutations

from surelyplan.costing import Cases, possible_ways, rows_read, with_index
from surelyplan.errors import BadPlan
from surelyplan.joining import atom_rows, join_rows, no_atoms
from surelyplan.plain import all_tuples, index_groups, is_group, is_integer
from surelyplan.queries import check_query_and_data, is_order, need_query, used_tables


class Plan:
    """An order of the atoms of a query, and a way for each step."""

    def __init__(self, order, ways):
        self.order = tuple(order)
        self.ways = tuple(ways)

    def __eq__(self, other):
        return isinstance(other, Plan) and self.order == other.order and self.ways == other.ways


class Cheapest:
    """A plan with the smallest cost, and floors: integers for all groups of atoms below which no plan gets there."""

    def __init__(self, plan, floors):
        self.plan = copy_plan(plan)
        self.floors = {group: floors[group] for group in floors}

    def __eq__(self, other):
        return isinstance(other, Cheapest) and self.plan == other.plan and self.floors == other.floors

    def shows(self, query, data):
        """Return whether the plan is one for the query, and the floors show that none costs less."""
        check_query_and_data(query, data)
        plan = copy_plan(self.plan)
        if not is_plan(query, plan) or not _are_floors(query, self.floors):
            return False
        steps = steps_of(query, data)
        for before, index in steps:
            most = self.floors[before] + min(steps[(before, index)].values())
            if self.floors[with_index(before, index)] > most:
                return False
        return self.floors[()] == 0 and self.floors[tuple(range(len(query)))] == cost_by_steps(steps, plan)


def all_plans(query):
    """Return the ascending list of all plans for a query."""
    need_query(query)
    plans = []
    for order in permutations(range(len(query))):
        choices = [_ways_of_step(query, order, step) for step in range(len(query))]
        plans.extend([Plan(order, ways) for ways in all_tuples(choices)])
    return plans


def count_plans(query):
    """Return the number of all plans for a query."""
    return len(all_plans(query))


def cost(query, plan, data):
    """Return the cost of a plan."""
    return sum([reads + makes for reads, makes in step_costs(query, plan, data)])


def step_costs(query, plan, data):
    """Return the list of pairs of the numbers of rows that each step reads and makes."""
    check_query_and_data(query, data)
    need_plan(query, plan)
    rows = no_atoms()
    costs = []
    for index, way in zip(plan.order, plan.ways):
        longer = join_rows(rows, atom_rows(query, data, index))
        counts = data.tables[query.atoms[index][0]]
        costs.append((rows_read(query, counts, rows, index, way), longer.many))
        rows = longer
    return costs


def cheapest(query, data):
    """Return a `Cheapest`."""
    check_query_and_data(query, data)
    floors, plans = _search(query, steps_of(query, data))
    return Cheapest(plans[tuple(range(len(query)))], floors)


def least_cost(query, data):
    """Return the smallest cost of a plan."""
    return cheapest(query, data).floors[tuple(range(len(query)))]


def copy_plan(plan):
    """Return a new plan with the same order and ways."""
    return Plan(plan.order, plan.ways)


def is_plan(query, plan):
    """Return whether a value is a plan for a query."""
    if not isinstance(plan, Plan) or not is_order(query, plan.order) or not is_group(plan.ways, len(query)):
        return False
    choices = [_ways_of_step(query, plan.order, step) for step in range(len(query))]
    return all([isinstance(way, str) and way in choice for way, choice in zip(plan.ways, choices)])


def need_plan(query, plan):
    """Raise an error unless an argument is a plan for a query."""
    if not is_plan(query, plan):
        raise BadPlan("not a plan for the query")


def steps_of(query, data):
    """Return a dict from all steps, pairs of ascending atoms and one that follows them, to the costs of their ways."""
    cases = Cases(query, [[data.tables[table]] for table in used_tables(query)])
    return {step: cases.step_costs(step, cases.combinations[0]) for step in cases.ways}


def cost_by_steps(steps, plan):
    """Return the cost of a plan, from the costs of all steps."""
    total = 0
    for step, way in enumerate(plan.ways):
        total += steps[(tuple(sorted(plan.order[:step])), plan.order[step])][way]
    return total


def _ways_of_step(query, order, step):
    return possible_ways(query, order[:step], order[step])


def _are_floors(query, floors):
    """Return whether floors are integers for exactly all ascending tuples of atoms."""
    groups = index_groups(len(query))
    if len(floors) != len(groups) or not all([group in floors for group in groups]):
        return False
    if not all([is_integer(index) for group in floors for index in group]):
        return False
    return all([is_integer(floor) for floor in floors.values()])


def _search(query, steps):
    """Return two dicts from all ascending tuples of atoms: to the least cost of them, and to a plan with it."""
    floors = {(): 0}
    plans = {(): Plan((), ())}
    for group in index_groups(len(query))[1:]:
        for index in group:
            before = tuple([other for other in group if other != index])
            ways = steps[(before, index)]
            for way in ways:
                total = floors[before] + ways[way]
                if group not in floors or total < floors[group]:
                    floors[group] = total
                    plans[group] = Plan(plans[before].order + (index,), plans[before].ways + (way,))
    return floors, plans
