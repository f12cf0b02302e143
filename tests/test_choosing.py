"""[14] Choices between plans over all agreeing data."""

from unittest.mock import patch

from surelyplan.choosing import Calmest, CostEnds, Surely, Torn
from surelyplan.choosing import best_questions, cost_ends, find_calmest, judge_plans, least_regret, reach_costs
from surelyplan.choosing import regret, regret_after
from surelyplan.errors import BadData, BadIndex, BadNotes, BadPlan, BadQuery, BadTable, Disagrees, TooLarge, Unlike
from surelyplan.joining import join_rows
from surelyplan.networks import list_counts
from surelyplan.plans import Plan, all_plans, cost, least_cost
from surelyplan.queries import Query
from surelyplan.schemas import Data, Schema
from surelyplan.statistics import Statistics, agree
from tests import oracle, slow
from tests.checks import DATA, QUERY, SCHEMA, STATS, Case, Fault, odd_except
from tests.random_cases import chance_of, draw_data, draw_query
from tests.test_shipping import combinations_of
from tests.test_weighing import draw_agreeing

ONES = Schema(2, (1, 1))
BOTH = Query(ONES, ((0, (0,)), (1, (0,))), (), ())
NOTES = [("cell", 0, (0,), 1, 2), ("cell", 0, (1,), 0, 0), ("cell", 1, (0,), 0, 0), ("cell", 1, (1,), 1, 2)]
APART = Statistics(ONES, NOTES)
NARROW = Statistics(SCHEMA, STATS.notes + (("cell", 1, (0,), 1, 1), ("cell", 1, (1,), 0, 2)))
NONE = Statistics(SCHEMA, [("rows", 1, 3, 2)])
PLAN = Plan((0, 1), ("scan", "left"))
SMALL = (Schema(2, (2, 1)), Schema(3, (1, 1)), Schema(2, (1, 1, 2)))


class Listing:
    """All agreeing combinations of tables of a query, with the regrets of all plans."""

    def __init__(self, stats, query):
        self.stats, self.query = stats, query
        self.data = list(combinations_of(stats, query))
        self.costs = [slow.costs(query, data) for data in self.data]
        self.names = slow.plan_names(query)

    def regrets(self, name, places=None):
        places = range(len(self.data)) if places is None else places
        return [self.costs[place][name] - min(self.costs[place].values()) for place in places]

    def least(self, places=None):
        return min(max(self.regrets(name, places)) for name in self.names)

    def left(self, table, quantity):
        """The regret that is left after a quantity is known."""
        if table not in {index for index, _ in self.query.atoms}:
            return self.least()
        groups = {}
        for place, data in enumerate(self.data):
            value = oracle.quantity_value(data.schema, table, quantity, data.tables[table])
            groups.setdefault(value, []).append(place)
        return max(self.least(group) for group in groups.values())


def draw_choice(chance, turn, most=30):
    """Statistics with a few agreeing combinations of tables, and a query."""
    while True:
        schema = SMALL[turn % 3]
        stats, _ = draw_agreeing(chance, schema, chance.randint(8, 14), 2, 3)
        query = draw_query(chance, schema, most_atoms=3, most_variables=3)
        if 2 <= len(list(combinations_of(stats, query))) <= most:
            return stats, query


class Regrets(Case):

    def test_against_all_plans(self):
        chance = chance_of(70)
        for turn in range(20):
            schema = SMALL[turn % 3]
            query, data = draw_query(chance, schema, most_variables=3), draw_data(chance, schema, most=1)
            costs = slow.costs(query, data)
            for plan in all_plans(query):
                wanted = costs[(plan.order, plan.ways)] - min(costs.values())
                self.assertEqual(wanted, regret(query, plan, data))

    def test_four_atoms_and_more_than_three_values(self):
        schema = Schema(4, (1, 2))
        query = Query(schema, ((0, (0,)), (1, (0, 1)), (1, (1, 2)), (0, (2,))), (), ())
        data = Data(schema, ((1, 2, 0, 0), (1,) * 16))
        plan = Plan((0, 1, 2, 3), ("scan", "left", "left", "left"))
        self.assertEqual(cost(query, plan, data) - least_cost(query, data), regret(query, plan, data))

    def test_errors(self):
        other = Data(Schema(2, (2,)), ((1, 1, 1, 1),))
        good = (QUERY, PLAN, DATA)
        self.assert_error_order(regret, good, [
            Fault(BadQuery, {0: None}, part=None), Fault(BadData, {2: None}, table=None), Fault(BadPlan, {1: None}),
        ])
        self.assert_error_order(regret, good, [Fault(Unlike, {2: other}), Fault(BadPlan, {1: Plan((0,), ("scan",))})])
        self.assert_refused(regret, good, 0, odd_except(Query), BadQuery, part=None)
        self.assert_refused(regret, good, 1, odd_except(), BadPlan)
        self.assert_refused(regret, good, 2, odd_except(Data), BadData, table=None)


class Listings(Case):

    def test_ends_of_costs(self):
        chance = chance_of(71)
        for turn in range(20):
            stats, query = draw_choice(chance, turn)
            listing = Listing(stats, query)
            for plan in all_plans(query)[::5]:
                costs = [told[(plan.order, plan.ways)] for told in listing.costs]
                self.assertEqual((min(costs), max(costs)), cost_ends(stats, query, plan))
                told = reach_costs(stats, query, plan)
                self.assertIs(told.shows(stats, query, plan), True)
                for data, wanted in ((told.least, min(costs)), (told.greatest, max(costs))):
                    self.assertEqual((True, wanted), (agree(stats, data), cost(query, plan, data)))

    def test_surely_best_and_calmest_plans(self):
        chance = chance_of(72)
        kinds = []
        for turn in range(40):
            stats, query = draw_choice(chance, turn)
            listing = Listing(stats, query)
            sure = [name for name in listing.names if max(listing.regrets(name)) == 0]
            told = judge_plans(stats, query)
            kinds.append(told.__class__)
            self.assertIs(told.shows(stats, query), True)
            if sure:
                self.assertIn((told.plan.order, told.plan.ways), sure)
            else:
                self.check_evidence(stats, query, told.against, 1)
            for order, ways in listing.names:
                self.assertIs((order, ways) in sure, Surely(Plan(order, ways)).shows(stats, query))
            self.check_calmest(stats, query, listing)
        self.assertTrue(kinds.count(Torn) > 4 and kinds.count(Surely) > 4, kinds)

    def check_evidence(self, stats, query, told, least):
        self.assertEqual(slow.plan_names(query), sorted(told))
        for (order, ways), data in told.items():
            self.assertIs(agree(stats, data), True)
            self.assertTrue(regret(query, Plan(order, ways), data) >= least)

    def check_calmest(self, stats, query, listing):
        told = find_calmest(stats, query)
        self.assertEqual(listing.least(), told.number)
        self.assertEqual(listing.least(), least_regret(stats, query))
        self.assertEqual(told.number, max(listing.regrets((told.plan.order, told.plan.ways))))
        self.check_evidence(stats, query, told.worst, told.number)
        self.assertIs(told.shows(stats, query), True)
        for name in listing.names:
            right = max(listing.regrets(name)) == told.number
            self.assertIs(right, Calmest(Plan(*name), told.number, told.worst).shows(stats, query))

    def test_regrets_that_are_left(self):
        chance = chance_of(73)
        less = 0
        for turn in range(20):
            stats, query = draw_choice(chance, turn)
            listing, left = Listing(stats, query), {}
            for table in range(len(stats.schema.widths)):
                quantities = oracle.quantities(stats.schema, table)
                for index, quantity in enumerate(quantities):
                    wanted = listing.left(table, quantity)
                    self.assertEqual(wanted, regret_after(stats, query, table, index))
                    if table in {used for used, _ in query.atoms}:
                        left[(table, index)] = wanted
                self.assert_fault(regret_after, (stats, query, table, len(quantities)), BadIndex)
            best = sorted(question for question in left if left[question] == min(left.values()))
            self.assertEqual(best, best_questions(stats, query))
            less += min(left.values()) < listing.least()
        self.assertTrue(less > 2)


class Details(Case):

    def test_each_quantity(self):
        wanted = {(0, 0): 0, (0, 1): 0, (0, 2): 2, (0, 3): 0, (0, 4): 2, (1, 0): 0, (1, 1): 2, (1, 2): 0, (1, 3): 2, (1, 4): 0}
        for (table, index), left in wanted.items():
            self.assertEqual(left, regret_after(APART, BOTH, table, index))
        self.assertEqual(sorted(pair for pair in wanted if wanted[pair] == 0), best_questions(APART, BOTH))

    def test_tables_that_the_query_does_not_use(self):
        schema = Schema(2, (1, 2, 1, 2))
        notes = [(note[0], 2 * note[1]) + note[2:] for note in NOTES] + [("rows", 1, 30, 36), ("cell", 3, (1, 0), 2, 3)]
        stats = Statistics(schema, notes)
        query = Query(schema, ((0, (0,)), (2, (0,))), (), ())
        self.assertEqual((2, 4), cost_ends(stats, query, PLAN))
        self.assertEqual([2, True], [least_regret(stats, query), find_calmest(stats, query).shows(stats, query)])
        self.assertIs(judge_plans(stats, query).shows(stats, query), True)
        self.assertEqual([(0, 0), (0, 1), (0, 3), (2, 0), (2, 2), (2, 4)], best_questions(stats, query))
        for table in (1, 3):
            for index in range(9):
                self.assertEqual(2, regret_after(stats, query, table, index))
            self.assert_fault(regret_after, (stats, query, table, 9), BadIndex)
        told = reach_costs(stats, query, PLAN)
        for data in (told.least, told.greatest):
            self.assertIs(agree(stats, data), True)
        # The tables that are not used may be any that agree, but they must agree.
        least = Data(schema, ((1, 0), (9, 9, 9, 3), (0, 1), (1, 1, 2, 1)))
        self.assertIs(CostEnds(least, told.greatest).shows(stats, query, PLAN), True)
        wrong = Data(schema, ((1, 0), (9, 9, 9, 2), (0, 1), (1, 1, 2, 1)))
        self.assertIs(CostEnds(wrong, told.greatest).shows(stats, query, PLAN), False)

    def test_filters_and_empty_answers(self):
        none = Query(ONES, BOTH.atoms, ((0, ()),), ())
        told = judge_plans(APART, none)
        listing = Listing(APART, none)
        self.assertEqual(listing.least() == 0, isinstance(told, Surely))
        self.assertIs(told.shows(APART, none), True)
        self.assertEqual(listing.least(), least_regret(APART, none))

    def test_data_that_are_known(self):
        schema = Schema(2, (1,))
        stats = Statistics(schema, [("cell", 0, (0,), 2, 2), ("cell", 0, (1,), 3, 3)])
        query = Query(schema, ((0, (0,)), (0, (1,))), (), ())
        plan = judge_plans(stats, query).plan
        self.assertEqual((cost(query, plan, Data(schema, ((2, 3),))),) * 2, cost_ends(stats, query, plan))
        self.assertEqual([0, 0], [least_regret(stats, query), regret_after(stats, query, 0, 4)])
        self.assertEqual([(0, index) for index in range(5)], best_questions(stats, query))

    def test_large_queries(self):
        schema = Schema(3, (2, 2, 2))
        cells = oracle.cells(schema, 0)
        notes = [("cell", 0, cell, 0, 9) for cell in cells[:2]] + [("cell", 0, cell, 5, 5) for cell in cells[2:]]
        stats = Statistics(schema, notes + [("rows", 1, 81, 81), ("rows", 2, 81, 81)])
        query = Query(schema, ((0, (0, 1)), (1, (1, 2)), (2, (2, 0))), (), ())
        self.assertIs(judge_plans(stats, query).shows(stats, query), True)
        self.assertIs(find_calmest(stats, query).shows(stats, query), True)
        self.assertEqual(48, len(best_questions(stats, query)))


class Limits(Case):

    def calls(self, stats, query, plan):
        """All calls that have the limits, and kinds of evidence that are asked."""
        yield cost_ends, (stats, query, plan)
        yield reach_costs, (stats, query, plan)
        yield CostEnds(DATA, DATA).shows, (stats, query, plan)
        yield judge_plans, (stats, query)
        yield find_calmest, (stats, query)
        yield least_regret, (stats, query)
        yield regret_after, (stats, query, 0, 0)
        yield best_questions, (stats, query)
        for told in (Surely(plan), Torn({}), Calmest(plan, 0, {})):
            yield told.shows, (stats, query)

    def test_three_atoms_and_four(self):
        schema = Schema(2, (2,))
        stats = Statistics(schema, [("cell", 0, cell, 1, 1) for cell in oracle.cells(schema, 0)])
        atoms = ((0, (0, 1)), (0, (1, 2)), (0, (2, 0)), (0, (0, 0)))
        three, four = Query(schema, atoms[:3], (), ()), Query(schema, atoms, (), ())
        for call, arguments in self.calls(stats, three, all_plans(three)[0]):
            call(*arguments)
        for call, arguments in self.calls(stats, four, all_plans(four)[0]):
            self.assert_fault(call, arguments, TooLarge)
        self.assertIs(judge_plans(stats, three).shows(stats, three), True)

    def check_limit(self, stats, query, wanted):
        """Statistics with so many combinations of tables of the query, at most or more than 100."""
        many = 1
        for table in {table for table, _ in query.atoms}:
            many *= len(oracle.agreeing(stats, table))
        self.assertEqual(wanted, many)
        for call, arguments in self.calls(stats, query, all_plans(query)[0]):
            if many <= 100:
                call(*arguments)
            else:
                self.assert_fault(call, arguments, TooLarge)

    def test_combinations_of_two_tables(self):
        schema = Schema(2, (1, 1, 1))
        query = Query(schema, ((0, (0,)), (1, (0,))), (), ())
        # The third table, with 100 more, is not used.
        within = Statistics(schema, [("cell", 0, (0,), 0, 0), ("cell", 1, (1,), 9, 9)])
        self.check_limit(within, query, 10 * 10)
        self.assertIs(judge_plans(within, query).shows(within, query), True)
        self.assertIs(find_calmest(within, query).shows(within, query), True)
        few = [("rows", 0, 2, 2), ("rows", 1, 0, 7)]
        self.check_limit(Statistics(schema, few + [("cell", 1, (0,), 0, 5)]), query, 3 * 33)
        self.check_limit(Statistics(schema, few + [("cell", 1, (0,), 0, 6)]), query, 3 * 35)

    def test_combinations_of_one_table(self):
        schema = Schema(2, (1, 2))
        query, wide = Query(schema, ((0, (0,)), (0, (1,))), (), ()), Query(schema, ((1, (0, 1)),), (), ())
        # A table that stands in two atoms is chosen once.
        self.check_limit(Statistics(schema, []), query, 100)
        self.check_limit(Statistics(schema, []), wide, 10000)
        notes = [("cell", 1, (1, 0), 0, 0), ("cell", 1, (1, 1), 0, 1)]
        self.check_limit(Statistics(schema, notes + [("rows", 1, 0, 9)]), wide, 100)
        self.check_limit(Statistics(schema, notes + [("rows", 1, 0, 10)]), wide, 119)
        notes = [("cell", 1, cell, 0, most) for cell, most in zip(oracle.cells(schema, 1), (1, 6, 8, 0))]
        self.check_limit(Statistics(schema, notes + [("rows", 1, 0, 10)]), wide, 101)


    def test_combinations_of_three_tables(self):
        schema = Schema(2, (1, 2, 1))
        query = Query(schema, ((0, (0,)), (1, (0, 1)), (2, (1,))), (), (1,))
        # So many tables of two cells without a row in the second one, or with one table and 101 others.
        few = {many: ((0, many - 1), (0, 0)) for many in range(1, 11)}
        for sizes, wanted in (((10, 1, 10), 100), ((5, 5, 4), 100), ((1, 10, 10), 100), ((2, 5, 10), 100), ((10, 10, 1), 100), ((3, 7, 5), 105),
                              ((2, 6, 9), 108), ((3, 4, 9), 108), ((10, 2, 6), 120), ((1, 10, 10), 100), ((6, 1, 10), 60)):
            notes = []
            for table, many in enumerate(sizes):
                cells = oracle.cells(schema, table)
                ends = list(few[many]) + [(1, 1)] * (len(cells) - 2)
                notes += [("cell", table, cell, low, high) for cell, (low, high) in zip(cells, ends)]
            self.check_limit(Statistics(schema, notes), query, wanted)

    def test_one_of_several_tables_has_101(self):
        # 101 tables of width 2, and one of each other table, whichever of them comes first.
        for place in range(3):
            widths = tuple(2 if table == place else 1 for table in range(3))
            schema = Schema(2, widths)
            query = Query(schema, tuple((table, tuple(range(table, table + width))) for table, width in enumerate(widths)), (), ())
            notes = [("cell", place, cell, 0, most) for cell, most in zip(oracle.cells(schema, place), (1, 6, 8, 0))]
            notes += [("rows", table, 0, 0) for table in range(3) if table != place]
            self.check_limit(Statistics(schema, notes + [("rows", place, 0, 10)]), query, 101)
            self.check_limit(Statistics(schema, notes + [("rows", place, 0, 10), ("cell", place, (0, 1), 0, 5)]), query, 92)

    def test_a_hundred_combinations_are_right(self):
        schema = Schema(2, (1, 2, 1))
        query = Query(schema, ((0, (0,)), (1, (0, 1)), (2, (1,))), (), (1,))
        stats = Statistics(schema, [("cell", 0, (0,), 0, 3), ("cell", 0, (1,), 1, 1), ("cell", 1, (0, 0), 0, 4), ("cell", 1, (0, 1), 1, 1),
                                    ("value", 1, 0, 1, 0, 0), ("cell", 2, (0,), 0, 1), ("cell", 2, (1,), 0, 2), ("rows", 2, 1, 3)])
        listing = Listing(stats, query)
        self.assertEqual(100, len(listing.data))
        told = judge_plans(stats, query)
        self.assertIs(told.shows(stats, query), True)
        worst = {name: max(listing.regrets(name)) for name in listing.names}
        self.assertEqual(0 in worst.values(), isinstance(told, Surely))
        calm = find_calmest(stats, query)
        self.assertEqual((min(worst.values()), min(worst.values())), (calm.number, least_regret(stats, query)))
        self.assertEqual(calm.number, worst[(calm.plan.order, calm.plan.ways)])
        self.check_plans(stats, query, listing, calm)
        left = {}
        for table in range(3):
            for index, quantity in enumerate(oracle.quantities(schema, table)):
                left[(table, index)] = listing.left(table, quantity)
                self.assertEqual(left[(table, index)], regret_after(stats, query, table, index))
        self.assertEqual(sorted(question for question in left if left[question] == min(left.values())), best_questions(stats, query))

    def check_plans(self, stats, query, listing, calm):
        """The ends of the costs of some plans, and whether they are calmest, from all combinations."""
        for name in listing.names[::7]:
            costs = [every[name] for every in listing.costs]
            plan = Plan(*name)
            self.assertEqual((min(costs), max(costs)), cost_ends(stats, query, plan))
            self.assertIs(reach_costs(stats, query, plan).shows(stats, query, plan), True)
            right = max(listing.regrets(name)) == calm.number
            self.assertIs(Calmest(plan, calm.number, calm.worst).shows(stats, query), right)

    def test_no_more_is_done_than_is_needed(self):
        schema = Schema(3, (2, 2, 2))
        query = Query(schema, ((0, (0, 1)), (1, (1, 2)), (2, (2, 3))), (), (1,))
        listed, joined = [], []

        def list_some(network, most):
            listed.append(list_counts(network, most))
            return listed[-1]

        def join_some(one, other):
            joined.append(None)
            return join_rows(one, other)

        with patch("surelyplan.sizes.list_counts", list_some), patch("surelyplan.costing.join_rows", join_some):
            for notes in ([], [("rows", 0, 0, 1)], [("rows", 0, 0, 1), ("rows", 1, 0, 1)], [("rows", 2, 0, 0)]):
                listed.clear()
                self.assert_fault(judge_plans, (Statistics(schema, notes), query), TooLarge)
                self.assertTrue(sum(len(tables) for tables in listed) < 140)
            self.assertEqual([], joined)
            stats = Statistics(schema, [("rows", 0, 0, 1), ("rows", 1, 0, 1), ("rows", 2, 0, 0)])
            listed.clear()
            best_questions(stats, query)
            self.assertEqual([10, 10, 1], [len(tables) for tables in listed])
            # 100 pairs of rows of the first two tables, 20 of the last one, and 100 of all tables.
            self.assertTrue(len(joined) <= 220)


class ShowsChoices(Case):

    def wrong_data(self):
        """Data that do not agree, and data of other schemas."""
        yield Data(ONES, ((0, 0), (0, 1)))
        yield Data(ONES, ((2, 1), (0, 1)))
        yield Data(Schema(2, (1,)), ((2, 0),))
        yield Data(Schema(3, (1, 1)), ((2, 0, 0), (0, 1, 0)))
        yield Data(Schema(2, (1, 1, 1)), ((2, 0), (0, 1), (0, 0)))

    def test_ends(self):
        data = list(combinations_of(APART, BOTH))
        for least in data:
            for greatest in data:
                wanted = (cost(BOTH, PLAN, least), cost(BOTH, PLAN, greatest)) == (2, 4)
                self.assertIs(wanted, CostEnds(least, greatest).shows(APART, BOTH, PLAN))
        told = reach_costs(APART, BOTH, PLAN)
        for wrong in self.wrong_data():
            self.assertIs(CostEnds(wrong, told.greatest).shows(APART, BOTH, PLAN), False)
            self.assertIs(CostEnds(told.least, wrong).shows(APART, BOTH, PLAN), False)
        # The same cost, but a count that no agreeing table has.
        wrong = Data(ONES, ((1, 0), (0, 3)))
        self.assertEqual(cost(BOTH, PLAN, told.least), cost(BOTH, PLAN, wrong))
        self.assertIs(CostEnds(wrong, told.greatest).shows(APART, BOTH, PLAN), False)

    def test_surely(self):
        same = Statistics(ONES, NOTES[:3] + [("cell", 1, (1,), 3, 4)])
        best = Plan((0, 1), ("scan", "left"))
        self.assertEqual(Surely(best), judge_plans(same, BOTH))
        listing = Listing(same, BOTH)
        sure = [name for name in listing.names if max(listing.regrets(name)) == 0]
        self.assertTrue(0 < len(sure) < len(listing.names))
        for order, ways in listing.names:
            self.assertIs((order, ways) in sure, Surely(Plan(list(order), list(ways))).shows(same, BOTH))
        for order, ways in (
            ((0,), ("scan",)), ((0, 1), ("scan", "right")), ((False, True), ("scan", "left")), ((), ()),
            ((0, 1), ("left", "left")), ((0, 0), ("scan", "left")), ((0, 1, 2), ("scan", "left", "left")),
        ):
            self.assertIs(Surely(Plan(order, ways)).shows(same, BOTH), False)
        told = Surely(best)
        told.plan = Plan((1, 0), ("scan", "left"))
        self.assertIs(told.shows(same, BOTH), False)
        told.plan = Plan([0, 1], ["scan", "left"])
        self.assertIs(told.shows(same, BOTH), True)

    def check_dict(self, right, shows):
        """A dict from all names to data is right, and each change at one place is wrong."""
        self.assertIs(shows(right), True)
        self.assertIs(shows(dict(reversed(list(right.items())))), True)
        for name in right:
            self.assertIs(shows({other: right[other] for other in right if other != name}), False)
            for wrong in self.wrong_data():
                self.assertIs(shows({**right, name: wrong}), False)
            other = ((False,) + name[0][1:], name[1]) if name[0][0] == 0 else ((True,) + name[0][1:], name[1])
            fewer = {place: right[place] for place in right if place != name}
            self.assertIs(shows({**fewer, other: right[name]}), False)
            self.assertIs(shows({**fewer, ((0, 1), ("scan", "right")): right[name]}), False)
        some = list(right.values())[0]
        for name in (((0, 1), ("scan", "right")), ((0,), ("scan",)), ((), ()), ((1, 0), ("left", "left"))):
            self.assertIs(shows({**right, name: some}), False)
        self.assertIs(shows({}), False)

    def test_torn(self):
        told = judge_plans(APART, BOTH)
        self.check_dict(told.against, lambda against: Torn(against).shows(APART, BOTH))
        for name in told.against:
            for data in combinations_of(APART, BOTH):
                wanted = regret(BOTH, Plan(*name), data) > 0
                self.assertIs(wanted, Torn({**told.against, name: data}).shows(APART, BOTH))
        told.against = {}
        self.assertIs(told.shows(APART, BOTH), False)

    def test_calmest(self):
        told = find_calmest(APART, BOTH)
        self.assertEqual(2, told.number)
        self.check_dict(told.worst, lambda worst: Calmest(told.plan, 2, worst).shows(APART, BOTH))
        for name in told.worst:
            for data in combinations_of(APART, BOTH):
                wanted = regret(BOTH, Plan(*name), data) >= 2
                self.assertIs(wanted, Calmest(told.plan, 2, {**told.worst, name: data}).shows(APART, BOTH))
        for number in (0, 1, 3, -2, True, None, "2"):
            self.assertIs(Calmest(told.plan, number, told.worst).shows(APART, BOTH), False)
        for order, ways in (((0,), ("scan",)), ((0, 1), ("scan", "right")), ((False, True), ("scan", "left"))):
            self.assertIs(Calmest(Plan(order, ways), 2, told.worst).shows(APART, BOTH), False)
        listing = Listing(APART, BOTH)
        for name in listing.names:
            right = max(listing.regrets(name)) == 2
            self.assertIs(right, Calmest(Plan(*name), 2, told.worst).shows(APART, BOTH))
            self.assertIs(right, Calmest(Plan(list(name[0]), list(name[1])), 2, told.worst).shows(APART, BOTH))
            most = max(listing.regrets(name))
            self.assertIs(right, Calmest(Plan(*name), most, told.worst).shows(APART, BOTH))

    def test_a_number_of_one_is_not_true(self):
        # Regrets of 0 and 1 alone would let True and False pass for numbers.
        stats = Statistics(ONES, [("cell", 0, (0,), 1, 1), ("cell", 0, (1,), 0, 0), ("rows", 1, 1, 1)])
        told = find_calmest(stats, BOTH)
        self.assertEqual(0, told.number)
        self.assertIs(told.shows(stats, BOTH), True)
        self.assertIs(Calmest(told.plan, False, told.worst).shows(stats, BOTH), False)

    def test_evidence_for_others(self):
        wide = Statistics(ONES, NOTES[:3] + [("cell", 1, (1,), 1, 9)])
        self.assertIs(find_calmest(wide, BOTH).shows(APART, BOTH), False)
        self.assertIs(judge_plans(APART, BOTH).shows(wide, BOTH), True)
        one = Query(ONES, BOTH.atoms[:1], (), ())
        self.assertIs(judge_plans(APART, BOTH).shows(APART, one), False)

    def test_arguments_are_copied_and_results_are_new(self):
        plan, data = Plan((0, 1), ("scan", "left")), Data(ONES, ((2, 0), (0, 1)))
        told = {(plan.order, plan.ways): data}
        sure, torn, calm = Surely(plan), Torn(told), Calmest(plan, 2, told)
        plan.order = ()
        told.clear()
        self.assertEqual([PLAN, PLAN], [sure.plan, calm.plan])
        self.assertEqual([{(PLAN.order, PLAN.ways): data}] * 2, [torn.against, calm.worst])

        def spoil(found):
            found.against.clear()
        self.assert_new_each_time(lambda: judge_plans(APART, BOTH), spoil)

        def spoil_calmest(found):
            found.worst.clear()
            found.plan.ways = ()
        self.assert_new_each_time(lambda: find_calmest(APART, BOTH), spoil_calmest)
        self.assert_new_each_time(lambda: best_questions(APART, BOTH), lambda pairs: pairs.pop())
        same = Statistics(ONES, NOTES[:3] + [("cell", 1, (1,), 3, 4)])

        def spoil_plan(found):
            found.plan.order = ()
        self.assert_new_each_time(lambda: judge_plans(same, BOTH), spoil_plan)

        def spoil_ends(found):
            found.least = found.greatest
        self.assert_new_each_time(lambda: reach_costs(APART, BOTH, PLAN), spoil_ends)

    def test_equality(self):
        one, two = Data(ONES, ((1, 0), (0, 1))), Data(ONES, ((2, 0), (0, 1)))
        names = (((0, 1), ("scan", "left")), ((1, 0), ("scan", "left")))
        other = Plan((1, 0), ("scan", "left"))
        self.assert_equality((CostEnds(one, two), CostEnds(Data(ONES, one.tables), two)), (
            CostEnds(two, two), CostEnds(one, one), CostEnds(two, one),
        ))
        self.assert_equality((Surely(PLAN), Surely(Plan([0, 1], ["scan", "left"]))), (Surely(other), Torn({})))
        both = {names[0]: one, names[1]: two}
        turned = {names[1]: two, names[0]: one}
        self.assert_equality((Torn(both), Torn(turned)), (Torn({}), Torn({names[0]: one}), Torn({**both, names[0]: two})))
        self.assert_equality((Calmest(PLAN, 2, both), Calmest(PLAN, 2, turned)), (
            Calmest(other, 2, both), Calmest(PLAN, 1, both), Calmest(PLAN, 2, {}), Torn(both), Surely(PLAN),
        ))


class ChoiceErrors(Case):

    def calls(self):
        """The calls with right arguments, and the faults of those behind statistics and the query."""
        told = find_calmest(NARROW, QUERY)
        bad = [Fault(BadPlan, {2: None})]
        yield cost_ends, (NARROW, QUERY, PLAN), bad
        yield reach_costs, (NARROW, QUERY, PLAN), bad
        yield reach_costs(NARROW, QUERY, PLAN).shows, (NARROW, QUERY, PLAN), bad
        for call in (judge_plans, find_calmest, least_regret, best_questions, told.shows, Torn({}).shows, Surely(PLAN).shows):
            yield call, (NARROW, QUERY), []
        yield regret_after, (NARROW, QUERY, 0, 0), [Fault(BadTable, {2: 2}), Fault(BadIndex, {3: -1})]

    def test_order_of_errors(self):
        other = Query(Schema(2, (2,)), ((0, (0, 1)),), (), ())
        wide = Statistics(SCHEMA, [])
        four = Query(SCHEMA, ((0, (0, 1)), (0, (1, 0)), (1, (0,)), (1, (1,))), (), ())
        for call, good, last in self.calls():
            first = [Fault(BadNotes, {0: None}, index=None), Fault(BadQuery, {1: None}, part=None)]
            self.assert_error_order(call, good, first + last)
            self.assert_error_order(call, good, [Fault(Unlike, {1: other})] + last)
            self.assert_error_order(call, good, [Fault(Disagrees, {0: NONE}, index=1), Fault(TooLarge, {1: four})] + last)
            self.assert_error_order(call, good, [Fault(TooLarge, {0: wide})] + last)
            self.assert_fault(call, (NONE, None) + good[2:], BadQuery, {"part": None})
            self.assert_fault(call, (NONE, other) + good[2:], Unlike)
            self.assert_refused(call, good, 0, odd_except(Statistics), BadNotes, index=None)
            self.assert_refused(call, good, 1, odd_except(Query), BadQuery, part=None)

    def test_wrong_plans(self):
        for call in (cost_ends, reach_costs, reach_costs(NARROW, QUERY, PLAN).shows):
            self.assert_refused(call, (NARROW, QUERY, PLAN), 2, odd_except(), BadPlan)
            wrong = [Plan((0,), ("scan",)), Plan((False, True), ("scan", "left")), Plan((0, 1), ("scan", "right"))]
            self.assert_refused(call, (NARROW, QUERY, PLAN), 2, wrong, BadPlan)

    def test_wrong_tables_and_indices(self):
        good = (NARROW, QUERY, 1, 0)
        odd = [value for value in odd_except() if value.__class__ is not int]
        self.assert_refused(regret_after, good, 2, odd + [2, -1, 99], BadTable)
        self.assert_refused(regret_after, good, 3, odd + [5, -1, 99, 10 ** 30], BadIndex)
        for table, many in ((0, 9), (1, 5)):
            for index in range(many):
                regret_after(NARROW, QUERY, table, index)
            self.assert_fault(regret_after, (NARROW, QUERY, table, many), BadIndex)
