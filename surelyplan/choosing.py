"""Choices between plans over all data that agree with statistics: ends of costs, surely best plans, least regrets."""

from surelyplan.costing import Cases
from surelyplan.errors import BadIndex, TooLarge
from surelyplan.networks import first_counts
from surelyplan.notes import all_quantities, cells_about
from surelyplan.plain import is_between, is_integer
from surelyplan.plans import all_plans, copy_plan, cost, is_plan, least_cost, need_plan
from surelyplan.queries import used_tables
from surelyplan.schemas import Data, need_table
from surelyplan.sizes import check_notes_and_query, table_choices
from surelyplan.statistics import agree

MOST_ATOMS = 3
MOST_COMBINATIONS = 100


class CostEnds:
    """Agreeing data on which the cost of a plan is as small and as great as possible."""

    def __init__(self, least, greatest):
        self.least = least
        self.greatest = greatest

    def __eq__(self, other):
        return isinstance(other, CostEnds) and self.least == other.least and self.greatest == other.greatest

    def shows(self, stats, query, plan):
        """Return whether the data agree with the notes, and the plan has the smallest and the greatest cost on them."""
        ends = cost_ends(stats, query, plan)
        if not _agree(stats, self.least) or not _agree(stats, self.greatest):
            return False
        return ends == (cost(query, plan, self.least), cost(query, plan, self.greatest))


class Surely:
    """A plan that is cheapest on all agreeing data."""

    def __init__(self, plan):
        self.plan = copy_plan(plan)

    def __eq__(self, other):
        return isinstance(other, Surely) and self.plan == other.plan

    def shows(self, stats, query):
        """Return whether the plan is one for the query, and has no regret on any agreeing data."""
        choice = Choice(stats, query)
        plan = copy_plan(self.plan)
        return is_plan(query, plan) and choice.greatest_regret(plan) == 0


class Torn:
    """For each plan agreeing data on which another one is cheaper."""

    def __init__(self, against):
        self.against = {name: against[name] for name in against}

    def __eq__(self, other):
        return isinstance(other, Torn) and self.against == other.against

    def shows(self, stats, query):
        """Return whether each plan has a regret on its data, and all of them agree with the notes."""
        return Choice(stats, query).have_regrets(self.against, 1)


class Calmest:
    """A plan with the smallest greatest regret, and for each plan agreeing data on which it has no smaller one."""

    def __init__(self, plan, number, worst):
        self.plan = copy_plan(plan)
        self.number = number
        self.worst = {name: worst[name] for name in worst}

    def __eq__(self, other):
        if not isinstance(other, Calmest) or self.plan != other.plan or self.number != other.number:
            return False
        return self.worst == other.worst

    def shows(self, stats, query):
        """Return whether the number is the greatest regret of the plan, and each plan has one as great on its data."""
        choice = Choice(stats, query)
        plan = copy_plan(self.plan)
        if not is_plan(query, plan) or not is_integer(self.number):
            return False
        return choice.greatest_regret(plan) == self.number and choice.have_regrets(self.worst, self.number)


class Choice:
    """What notes leave open for a query: its plans, the combinations of agreeing tables, and data with these."""

    def __init__(self, stats, query):
        networks = check_notes_and_query(stats, query)
        if len(query) > MOST_ATOMS:
            raise TooLarge("more than three atoms")
        self.stats = stats
        self.networks = networks
        self.cases = Cases(query, table_choices(networks, used_tables(query), MOST_COMBINATIONS))
        self.plans = all_plans(query)
        self.found_data = {}

    def data_on(self, chosen):
        """Return agreeing data with the tables of a combination."""
        if chosen not in self.found_data:
            tables = [self._counts_on(table, chosen) for table in range(len(self.stats.schema))]
            self.found_data[chosen] = Data(self.stats.schema, tables)
        return self.found_data[chosen]

    def greatest_regret(self, plan):
        """Return the greatest regret of a plan on any agreeing data."""
        place = self.plans.index(plan)
        return max([self.cases.regrets(chosen)[place] for chosen in self.cases.combinations])

    def worst_cases(self):
        """Return the list of pairs of the greatest regret of each plan, and the first combination with it."""
        combinations = self.cases.combinations
        every = [self.cases.regrets(chosen) for chosen in combinations]
        worst = []
        for place in range(len(self.plans)):
            regrets = [row[place] for row in every]
            most = max(regrets)
            worst.append((most, combinations[regrets.index(most)]))
        return worst

    def have_regrets(self, told, least):
        """Return whether a dict leads from the names of all plans to agreeing data with at least such regrets."""
        names = [_name(plan) for plan in self.plans]
        if len(told) != len(names) or not all([name in told for name in names]):
            return False
        if not all([is_integer(index) for name in told for index in name[0]]):
            return False
        if not _all_agree(self.stats, list(told.values())):
            return False
        places = [self._combination_of(told[name]) for name in names]
        return all([self.cases.regrets(chosen)[at] >= least for at, chosen in enumerate(places)])

    def regret_left(self, table, quantities):
        """Return the list of the regrets that are left if one of some quantities of a table is known."""
        if table not in self.cases.spots:
            return [min([most for most, chosen in self.worst_cases()]) for quantity in quantities]
        choices = self.cases.choices[self.cases.spots[table]]
        regrets = self._regrets_by_table(table)
        about = [cells_about(self.stats.schema, table, quantity) for quantity in quantities]
        values = [[sum([counts[place] for place in places]) for counts in choices] for places in about]
        return [_regret_with(regrets, told) for told in values]

    def _counts_on(self, table, chosen):
        if table in self.cases.spots:
            return self.cases.chosen_counts(table, chosen)
        return first_counts(self.networks[table])

    def _combination_of(self, data):
        choices = self.cases.choices
        return tuple([choices[spot].index(data.tables[table]) for table, spot in self.cases.spots.items()])

    def _regrets_by_table(self, table):
        """Return a list with the list of the greatest regrets of all plans for each agreeing table."""
        spot = self.cases.spots[table]
        regrets = [[] for _ in self.cases.choices[spot]]
        for chosen in self.cases.combinations:
            regrets[chosen[spot]] = _greater(regrets[chosen[spot]], self.cases.regrets(chosen))
        return regrets


def regret(query, plan, data):
    """Return the regret of a plan on data."""
    return cost(query, plan, data) - least_cost(query, data)


def cost_ends(stats, query, plan):
    """Return the pair of the smallest and the greatest cost of a plan over all agreeing data."""
    costs = _costs_of(Choice(stats, query), query, plan)
    return min(costs), max(costs)


def reach_costs(stats, query, plan):
    """Return a `CostEnds`."""
    choice = Choice(stats, query)
    costs = _costs_of(choice, query, plan)
    ends = [choice.cases.combinations[costs.index(end)] for end in (min(costs), max(costs))]
    return CostEnds(choice.data_on(ends[0]), choice.data_on(ends[1]))


def judge_plans(stats, query):
    """Return a `Surely`, or a `Torn` if no plan is cheapest on all agreeing data."""
    choice = Choice(stats, query)
    worst = choice.worst_cases()
    for plan, (most, _) in zip(choice.plans, worst):
        if most == 0:
            return Surely(plan)
    return Torn({_name(plan): choice.data_on(chosen) for plan, (most, chosen) in zip(choice.plans, worst)})


def find_calmest(stats, query):
    """Return a `Calmest`."""
    choice = Choice(stats, query)
    worst = choice.worst_cases()
    greatest = [most for most, chosen in worst]
    number = min(greatest)
    told = {_name(plan): choice.data_on(chosen) for plan, (most, chosen) in zip(choice.plans, worst)}
    return Calmest(choice.plans[greatest.index(number)], number, told)


def least_regret(stats, query):
    """Return the smallest greatest regret of a plan."""
    return min([most for most, chosen in Choice(stats, query).worst_cases()])


def regret_after(stats, query, table, index):
    """Return the regret that is left if a quantity of a table is known."""
    choice = Choice(stats, query)
    need_table(stats.schema, table)
    quantities = all_quantities(stats.schema, table)
    if not is_between(index, 0, len(quantities) - 1):
        raise BadIndex("there is no quantity with this index")
    return choice.regret_left(table, [quantities[index]])[0]


def best_questions(stats, query):
    """Return the ascending list of pairs of a table and the index of a quantity that leave the least regret."""
    choice = Choice(stats, query)
    left = {}
    for table in used_tables(query):
        for index, number in enumerate(choice.regret_left(table, all_quantities(stats.schema, table))):
            left[(table, index)] = number
    least = min(left.values())
    return [question for question in left if left[question] == least]


def _costs_of(choice, query, plan):
    """Return the list of the costs of a plan on all combinations of agreeing tables."""
    need_plan(query, plan)
    return [choice.cases.plan_cost(plan, chosen) for chosen in choice.cases.combinations]


def _name(plan):
    return plan.order, plan.ways


def _agree(stats, data):
    return data.schema == stats.schema and agree(stats, data)


def _all_agree(stats, every):
    """Return whether all of some data agree with notes; the same tables are looked at once."""
    if not all([data.schema == stats.schema for data in every]):
        return False
    different = {data.tables: data for data in every}
    return all([agree(stats, data) for data in different.values()])


def _greater(one, other):
    """Return the list of the greater items of two lists, or the other one if the first one is still empty."""
    if one == []:
        return other
    return [max(first, second) for first, second in zip(one, other)]


def _regret_with(regrets, values):
    """Return the greatest one of the least regrets over the tables in which a quantity has the same value."""
    groups = {}
    for told, value in zip(regrets, values):
        groups[value] = _greater(groups.get(value, []), told)
    return max([min(told) for told in groups.values()])
