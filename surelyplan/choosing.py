"""Choices between plans over all data that agree with statistics: ends of costs, surely best plans, least regrets."""

from surelyplan.errors import BadIndex, TooLarge
from surelyplan.notes import all_quantities, value_on
from surelyplan.plain import all_tuples, is_between, is_integer
from surelyplan.plans import all_plans, copy_plan, cost, cost_by_steps, is_plan, least_cost, need_plan, steps_of
from surelyplan.schemas import need_table
from surelyplan.sizes import check_notes_and_query, data_with, some_counts, table_choices, used_tables
from surelyplan.statistics import agree

MOST_ATOMS = 3
MOST_COMBINATIONS = 100


class CostEnds:
    """Agreeing data on which the cost of a plan is as small and as great as possible."""

    def __init__(self, least, greatest):
        self.least = least
        self.greatest = greatest

    def __eq__(self, other):
        return isinstance(other, CostEnds) and self.least == other.least and self.greatest == other.greatest

    def shows(self, stats, query, plan):
        """Return whether the data agree with the notes, and the plan has the smallest and the greatest cost on them."""
        ends = cost_ends(stats, query, plan)
        if not _agree(stats, self.least) or not _agree(stats, self.greatest):
            return False
        return ends == (cost(query, plan, self.least), cost(query, plan, self.greatest))


class Surely:
    """A plan that is cheapest on all agreeing data."""

    def __init__(self, plan):
        self.plan = copy_plan(plan)

    def __eq__(self, other):
        return isinstance(other, Surely) and self.plan == other.plan

    def shows(self, stats, query):
        """Return whether the plan is one for the query, and has no regret on any agreeing data."""
        _check_choice(stats, query)
        plan = copy_plan(self.plan)
        return is_plan(query, plan) and _greatest_regret(_all_cases(stats, query), _name(plan)) == 0


class Torn:
    """For each plan agreeing data on which another one is cheaper."""

    def __init__(self, against):
        self.against = {name: against[name] for name in against}

    def __eq__(self, other):
        return isinstance(other, Torn) and self.against == other.against

    def shows(self, stats, query):
        """Return whether each plan has a regret on its data, and all of them agree with the notes."""
        _check_choice(stats, query)
        return _have_regrets(stats, query, self.against, 1)


class Calmest:
    """A plan with the smallest greatest regret, and for each plan agreeing data on which it has no smaller one."""

    def __init__(self, plan, number, worst):
        self.plan = copy_plan(plan)
        self.number = number
        self.worst = {name: worst[name] for name in worst}

    def __eq__(self, other):
        if not isinstance(other, Calmest) or self.plan != other.plan or self.number != other.number:
            return False
        return self.worst == other.worst

    def shows(self, stats, query):
        """Return whether the number is the greatest regret of the plan, and each plan has one as great on its data."""
        _check_choice(stats, query)
        plan = copy_plan(self.plan)
        if not is_plan(query, plan) or not is_integer(self.number):
            return False
        if _greatest_regret(_all_cases(stats, query), _name(plan)) != self.number:
            return False
        return _have_regrets(stats, query, self.worst, self.number)


class Case:
    """Agreeing data, and a dict from the names of all plans to their regrets on these data."""

    def __init__(self, data, regrets):
        self.data = data
        self.regrets = regrets


def regret(query, plan, data):
    """Return the regret of a plan on data."""
    return cost(query, plan, data) - least_cost(query, data)


def cost_ends(stats, query, plan):
    """Return the pair of the smallest and the greatest cost of a plan over all agreeing data."""
    reached = reach_costs(stats, query, plan)
    return cost(query, plan, reached.least), cost(query, plan, reached.greatest)


def reach_costs(stats, query, plan):
    """Return a `CostEnds`."""
    _check_choice(stats, query)
    need_plan(query, plan)
    every = _all_data(stats, query)
    costs = [cost(query, plan, data) for data in every]
    return CostEnds(every[costs.index(min(costs))], every[costs.index(max(costs))])


def judge_plans(stats, query):
    """Return a `Surely`, or a `Torn` if no plan is cheapest on all agreeing data."""
    _check_choice(stats, query)
    cases = _all_cases(stats, query)
    against = {}
    for plan in all_plans(query):
        worst = _worst_case(cases, _name(plan))
        if worst.regrets[_name(plan)] == 0:
            return Surely(plan)
        against[_name(plan)] = worst.data
    return Torn(against)


def find_calmest(stats, query):
    """Return a `Calmest`."""
    _check_choice(stats, query)
    cases = _all_cases(stats, query)
    plans = all_plans(query)
    greatest = [_greatest_regret(cases, _name(plan)) for plan in plans]
    number = min(greatest)
    worst = {_name(plan): _worst_case(cases, _name(plan)).data for plan in plans}
    return Calmest(plans[greatest.index(number)], number, worst)


def least_regret(stats, query):
    """Return the smallest greatest regret of a plan."""
    _check_choice(stats, query)
    return _least_regret(_all_cases(stats, query))


def regret_after(stats, query, table, index):
    """Return the regret that is left if a quantity of a table is known."""
    _check_choice(stats, query)
    need_table(stats.schema, table)
    quantities = all_quantities(stats.schema, table)
    if not is_between(index, 0, len(quantities) - 1):
        raise BadIndex("there is no quantity with this index")
    return _regret_left(_all_cases(stats, query), table, quantities[index])


def best_questions(stats, query):
    """Return the ascending list of pairs of a table and the index of a quantity that leave the least regret."""
    _check_choice(stats, query)
    cases = _all_cases(stats, query)
    left = {}
    for table in used_tables(query):
        for index, quantity in enumerate(all_quantities(stats.schema, table)):
            left[(table, index)] = _regret_left(cases, table, quantity)
    least = min(left.values())
    return [question for question in left if left[question] == least]


def _check_choice(stats, query):
    check_notes_and_query(stats, query)
    if len(query) > MOST_ATOMS:
        raise TooLarge("more than three atoms")
    table_choices(stats, used_tables(query), MOST_COMBINATIONS)


def _all_data(stats, query):
    """Return the list of data with each combination of agreeing tables of the query."""
    choices = table_choices(stats, used_tables(query), MOST_COMBINATIONS)
    counts = some_counts(stats)
    return [data_with(query, counts, chosen) for chosen in all_tuples(choices)]


def _all_cases(stats, query):
    plans = all_plans(query)
    return [_case_of(query, plans, data) for data in _all_data(stats, query)]


def _case_of(query, plans, data):
    steps = steps_of(query, data)
    costs = {_name(plan): cost_by_steps(steps, plan) for plan in plans}
    least = min(costs.values())
    return Case(data, {name: costs[name] - least for name in costs})


def _name(plan):
    return plan.order, plan.ways


def _greatest_regret(cases, name):
    return max([case.regrets[name] for case in cases])


def _worst_case(cases, name):
    """Return the first case in which the regret of a plan is greatest."""
    regrets = [case.regrets[name] for case in cases]
    return cases[regrets.index(max(regrets))]


def _least_regret(cases):
    return min([_greatest_regret(cases, name) for name in cases[0].regrets])


def _regret_left(cases, table, quantity):
    """Return the greatest one of the least regrets over the cases with the same value of a quantity."""
    groups = {}
    for case in cases:
        value = value_on(case.data.schema, table, quantity, case.data.tables[table])
        groups.setdefault(value, []).append(case)
    return max([_least_regret(group) for group in groups.values()])


def _agree(stats, data):
    return data.schema == stats.schema and agree(stats, data)


def _have_regrets(stats, query, told, least):
    """Return whether a dict leads from the names of all plans to agreeing data with at least such regrets."""
    plans = all_plans(query)
    names = [_name(plan) for plan in plans]
    if len(told) != len(names) or not all([name in told for name in names]):
        return False
    if not all([is_integer(index) for name in told for index in name[0]]):
        return False
    if not all([_agree(stats, data) for data in told.values()]):
        return False
    return all([_case_of(query, plans, told[name]).regrets[name] >= least for name in names])
