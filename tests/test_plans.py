"""[12] Plans, their costs, and cheapest plans."""

from surelyplan.errors import BadData, BadPlan, BadQuery, Unlike
from surelyplan.plans import Cheapest, Plan, all_plans, cheapest, cost, count_plans, least_cost, step_costs
from surelyplan.queries import Query
from surelyplan.schemas import Data, Schema
from tests import oracle, slow
from tests.checks import DATA, QUERY, SCHEMA, AlwaysEqual, Case, Fault, odd_except
from tests.random_cases import any_schema, chance_of, draw_data, draw_query

WIDE = Schema(3, (2, 1))
ATOMS = (
    ((0, (0, 1)),), ((1, (0,)),), ((0, (0, 0)),), ((0, (0, 1)), (1, (1,))), ((0, (0, 1)), (1, (2,))),
    ((0, (0, 1)), (0, (1, 0))), ((0, (0, 0)), (0, (0, 1)), (1, (0,))), ((0, (0, 1)), (0, (1, 1)), (0, (2, 0))),
    ((0, (0, 1)), (0, (2, 3)), (1, (4,))), ((0, (0, 1)), (0, (1, 2)), (0, (2, 3)), (0, (3, 0))),
    ((0, (0, 0)), (0, (1, 1)), (1, (2,)), (0, (2, 2))), ((1, (0,)), (1, (1,)), (0, (0, 2)), (0, (1, 2))),
)
PLAN = Plan((0, 1), ("scan", "left"))


def right_floors(query, data):
    """The least costs of all groups of atoms, from the costs of all orders of them."""
    floors = {(): 0}
    for group in oracle.every_group(range(len(query))):
        for order, ways in slow.plan_names(query):
            if group and sorted(order[:len(group)]) == list(group):
                pairs = slow.step_costs(query, data, order[:len(group)], ways[:len(group)])
                total = sum(sum(pair) for pair in pairs)
                floors[group] = min(total, floors.get(group, total))
    return floors


class Plans(Case):

    def test_all_plans_in_ascending_order(self):
        for atoms in ATOMS:
            query = Query(WIDE, atoms, (), ())
            plans = all_plans(query)
            self.assertEqual(slow.plan_names(query), [(plan.order, plan.ways) for plan in plans])
            self.assertEqual(sorted((plan.order, plan.ways) for plan in plans), [(p.order, p.ways) for p in plans])
            self.assertEqual(len(plans), count_plans(query))
            self.assertEqual({Plan}, {plan.__class__ for plan in plans})

    def test_numbers_of_plans(self):
        wanted = {0: 1, 1: 1, 2: 1, 3: 6, 4: 4, 5: 2 * 4}
        for place, many in wanted.items():
            self.assertEqual(many, count_plans(Query(WIDE, ATOMS[place], (), ())))

    def test_a_filter_does_not_change_the_plans(self):
        plain, none = Query(WIDE, ATOMS[6], (), ()), Query(WIDE, ATOMS[6], ((0, ()),), (1,))
        self.assertEqual(all_plans(plain), all_plans(none))

    def test_plans_of_random_queries(self):
        chance = chance_of(40)
        for _ in range(40):
            query = draw_query(chance, any_schema(chance), most_variables=chance.randint(1, 6))
            self.assertEqual(slow.plan_names(query), [(plan.order, plan.ways) for plan in all_plans(query)])

    def test_attributes_are_tuples(self):
        order, ways = [0, 1], ["scan", "left"]
        plan = Plan(order, ways)
        order.append(2)
        ways.clear()
        self.assertEqual(((0, 1), ("scan", "left")), (plan.order, plan.ways))

    def test_equality(self):
        different = (
            Plan((1, 0), ("scan", "left")), Plan((0, 1), ("scan", "scan")), Plan((0,), ("scan",)), Plan((), ()),
        )
        self.assert_equality((PLAN, Plan([0, 1], ["scan", "left"])), different)

    def test_results_are_new(self):
        def spoil(plans):
            plans[0].ways = ("left",)
            plans.pop()
        self.assert_new_each_time(lambda: all_plans(QUERY), spoil)
        self.assertIsNot(all_plans(QUERY)[0], all_plans(QUERY)[0])

    def test_errors(self):
        for call in (all_plans, count_plans):
            self.assert_refused(call, (QUERY,), 0, odd_except(Query), BadQuery, part=None)


class Costs(Case):

    def check(self, query, data):
        costs = slow.costs(query, data)
        for plan in all_plans(query):
            self.assertEqual(costs[(plan.order, plan.ways)], cost(query, plan, data))
        chosen = all_plans(query)[::7]
        for plan in chosen:
            self.assertEqual(slow.step_costs(query, data, plan.order, plan.ways), step_costs(query, plan, data))
        self.assertEqual(min(costs.values()), least_cost(query, data))
        told = cheapest(query, data)
        self.assertEqual(min(costs.values()), costs[(told.plan.order, told.plan.ways)])
        self.assertIs(told.shows(query, data), True)

    def test_against_a_list_of_all_rows(self):
        chance = chance_of(41)
        for turn in range(60):
            schema = any_schema(chance, most_size=3, most_tables=3)
            data = draw_data(chance, schema, most=(1, 1, 2)[turn % 3])
            self.check(draw_query(chance, schema, most_atoms=3 if turn % 5 else 4, most_variables=3), data)

    def test_kinds_of_atoms(self):
        chance = chance_of(42)
        for atoms in ATOMS[:8]:
            self.check(Query(WIDE, atoms, (), ()), draw_data(chance, WIDE, most=1))

    def test_filters(self):
        data = Data(WIDE, ((1, 2, 0, 0, 1, 3, 1, 0, 2), (2, 0, 3)))
        for filters in ((), ((0, (0, 2)),), ((0, ()),), ((1, ()),), ((0, (1,)), (1, (2,))), ((0, (0, 1, 2)),)):
            self.check(Query(WIDE, ATOMS[3], filters, (0,)), data)
        none = Query(WIDE, ATOMS[3], ((0, ()),), (0,))
        # Rows that no filter keeps are read all the same; none are made.
        self.assertEqual([(10, 0), (0, 0)], step_costs(none, Plan((0, 1), ("scan", "left")), data))
        self.assertEqual([(5, 5), (15, 0)], step_costs(none, Plan((1, 0), ("scan", "gather")), data))
        self.assertEqual([(5, 5), (50, 0)], step_costs(none, Plan((1, 0), ("scan", "scan")), data))

    def test_left_and_right_read_rows_that_filters_and_equal_variables_do_not_keep(self):
        schema = Schema(2, (1, 2))
        data = Data(schema, ((2, 1), (3, 4, 5, 6)))
        query = Query(schema, ((0, (0,)), (1, (0, 0))), (), ())
        self.assertEqual([(3, 3), (2 * 7 + 11, 2 * 3 + 6)], step_costs(query, Plan((0, 1), ("scan", "left")), data))
        self.assertEqual([(3, 3), (2 * 8 + 10, 2 * 3 + 6)], step_costs(query, Plan((0, 1), ("scan", "right")), data))
        few = Query(schema, ((0, (0,)), (1, (0, 1))), ((1, (1,)),), ())
        self.assertEqual([(3, 3), (2 * 7 + 11, 2 * 4 + 6)], step_costs(few, Plan((0, 1), ("scan", "left")), data))

    def test_empty_tables(self):
        schema = Schema(2, (1, 2))
        for tables in (((0, 0), (1, 1, 1, 1)), ((1, 1), (0, 0, 0, 0)), ((0, 0), (0, 0, 0, 0))):
            self.check(Query(schema, ((0, (0,)), (1, (0, 1)), (1, (1, 1))), (), ()), Data(schema, tables))

    def test_made_rows_do_not_depend_on_the_order(self):
        chance = chance_of(43)
        for _ in range(10):
            schema = any_schema(chance, most_size=4)
            query, data = draw_query(chance, schema), draw_data(chance, schema, most=3)
            made = {}
            for plan in all_plans(query):
                for step, (_, many) in enumerate(step_costs(query, plan, data)):
                    made.setdefault(frozenset(plan.order[:step + 1]), set()).add(many)
            self.assertEqual({1}, {len(numbers) for numbers in made.values()})
            self.assertEqual({oracle.size(query, data)}, made[frozenset(range(len(query)))])

    def test_large_queries(self):
        schema = Schema(6, (2, 2, 2, 2))
        data = Data(schema, [[9] * 36] * 4)
        query = Query(schema, ((0, (0, 1)), (1, (2, 3)), (2, (4, 5)), (3, (0, 2))), (), (0, 5))
        plan = Plan((0, 1, 2, 3), ("scan", "gather", "scan", "right"))
        rows = [324, 324 ** 2, 324 ** 3, 324 ** 3 * 9]
        reads = [324, 324 + 324, 324 ** 3, 324 ** 3 * 54]
        self.assertEqual(list(zip(reads, rows)), step_costs(query, plan, data))
        self.assertEqual(sum(rows) + sum(reads), cost(query, plan, data))
        told = cheapest(query, data)
        self.assertIs(told.shows(query, data), True)
        self.assertEqual(16, len(told.floors))

    def test_results_are_new(self):
        self.assert_new_each_time(lambda: step_costs(QUERY, PLAN_FOR_QUERY, DATA), lambda costs: costs.pop())


PLAN_FOR_QUERY = Plan((0, 1), ("scan", "left"))


class BadPlans(Case):

    def wrong_plans(self):
        for value in odd_except():
            yield value
        for order in ((0,), (0, 1, 2), (0, 0), (1, 1), (0, 2), (-1, 0), (False, True), (0, True), (0, "1"), (), (0, None)):
            yield Plan(order, ("scan",) * len(order))
            yield Plan(order, ("scan", "scan"))
        for ways in (
            ("scan",), ("scan", "scan", "scan"), (), ("left", "scan"), ("gather", "scan"), ("scan", "right"), ("scan", 0),
            ("scan", "Left"), ("scan", ""), ("scan", None), ("scan", ("scan",)), ("scan", "s"), ("scan", ["left"]),
            ("scan", AlwaysEqual()), (AlwaysEqual(), "scan"),
        ):
            yield Plan((0, 1), ways)

    def test_refused(self):
        good = (QUERY, PLAN_FOR_QUERY, DATA)
        for call in (cost, step_costs):
            self.assert_refused(call, good, 1, list(self.wrong_plans()), BadPlan)

    def test_plans_of_other_queries(self):
        apart = Query(SCHEMA, ((0, (0, 1)), (1, (2,))), (), ())
        three = Query(SCHEMA, ((0, (0, 1)), (1, (1,)), (1, (0,))), (), ())
        one = Query(SCHEMA, ((1, (0,)),), (), ())
        for call in (cost, step_costs):
            self.assert_fault(call, (apart, PLAN_FOR_QUERY, DATA), BadPlan)
            for other in (three, one):
                for plan in all_plans(other):
                    self.assert_fault(call, (QUERY, plan, DATA), BadPlan)

    def test_every_name_that_is_no_plan(self):
        for atoms in ATOMS[3:8]:
            query, data = Query(WIDE, atoms, (), ()), Data(WIDE, ((1,) * 9, (1,) * 3))
            names = slow.plan_names(query)
            for order, _ in names:
                for step, way in ((step, way) for step in range(len(order)) for way in slow.WAYS):
                    ways = tuple(way if place == step else "scan" for place in range(len(order)))
                    if (order, ways) not in names:
                        self.assert_fault(cost, (query, Plan(order, ways), data), BadPlan)

    def test_order_of_errors(self):
        other = Data(Schema(2, (2,)), ((1, 1, 1, 1),))
        for call in (cost, step_costs):
            good = (QUERY, PLAN_FOR_QUERY, DATA)
            self.assert_error_order(call, good, [
                Fault(BadQuery, {0: None}, part=None), Fault(BadData, {2: None}, table=None), Fault(BadPlan, {1: None}),
            ])
            self.assert_error_order(call, good, [Fault(Unlike, {2: other}), Fault(BadPlan, {1: 0})])
            self.assert_refused(call, good, 0, odd_except(Query), BadQuery, part=None)
            self.assert_refused(call, good, 2, odd_except(Data), BadData, table=None)
        for call in (cheapest, least_cost, cheapest(QUERY, DATA).shows):
            self.assert_error_order(call, (QUERY, DATA), [
                Fault(BadQuery, {0: None}, part=None), Fault(BadData, {1: None}, table=None),
            ])
            self.assert_fault(call, (QUERY, other), Unlike)
            self.assert_refused(call, (QUERY, DATA), 0, odd_except(Query), BadQuery, part=None)
            self.assert_refused(call, (QUERY, DATA), 1, odd_except(Data), BadData, table=None)


class ShowsCheapest(Case):

    def setUp(self):
        self.schema = Schema(3, (2, 1))
        self.data = Data(self.schema, ((1, 2, 0, 0, 1, 0, 1, 0, 2), (2, 0, 1)))
        self.query = Query(self.schema, ((0, (0, 1)), (1, (1,)), (1, (2,))), ((0, (0, 2)),), (0,))
        self.floors = right_floors(self.query, self.data)
        self.costs = slow.costs(self.query, self.data)
        self.least = min(self.costs.values())

    def told(self, floors, plan=None):
        plan = cheapest(self.query, self.data).plan if plan is None else plan
        return Cheapest(plan, floors).shows(self.query, self.data)

    def test_right_floors(self):
        self.assertEqual(self.least, self.floors[(0, 1, 2)])
        self.assertIs(self.told(self.floors), True)
        self.assertIs(self.told(dict(reversed(list(self.floors.items())))), True)

    def test_low_floors_are_right_for_all_but_all_atoms_and_none(self):
        for group in self.floors:
            floors = {**self.floors, group: self.floors[group] - 1}
            steps_on = [other for other in floors if set(other) > set(group)]
            wanted = group not in ((), (0, 1, 2)) and all(
                floors[other] <= floors[group] + self.step(group, other)
                for other in steps_on if len(other) == len(group) + 1
            )
            self.assertIs(wanted, self.told(floors), group)

    def step(self, group, other):
        """The smallest cost of the step from a group to one with one atom more."""
        index = (set(other) - set(group)).pop()
        ways = [way for way in slow.WAYS if slow.may_have(self.query, group, index, way)]
        made = len(slow.rows(self.query, self.data, other))
        return made + min(slow.reads(self.query, self.data, group, index, way) for way in ways)

    def test_floors_that_are_too_high_at_one_place(self):
        for group in self.floors:
            self.assertIs(self.told({**self.floors, group: self.floors[group] + 1}), False, group)

    def test_low_floors_where_all_orders_cost_the_same(self):
        data, query = Data(SCHEMA, ((1, 0, 0, 0), (1, 0))), QUERY
        told = cheapest(query, data)
        # One row in each table: with either order the last step leads to the least cost, so no floor can be lower.
        self.assertEqual(right_floors(query, data), told.floors)
        for group in ((0,), (1,)):
            other = (1,) if group == (0,) else (0,)
            floors = {**told.floors, group: told.floors[group] - 1}
            order = other + group
            cheap = min(total for (first, _), total in slow.costs(query, data).items() if first == order)
            start = min(total for (first, _), total in slow.costs(query, data).items() if first == group + other)
            self.assertEqual(cheap, start)
            self.assertIs(Cheapest(told.plan, floors).shows(query, data), False)

    def test_low_floors_where_a_group_costs_more_on(self):
        # Starting with the large table costs more, so that its floor may be lower without changing anything.
        schema = Schema(2, (1, 2))
        data, query = Data(schema, ((1, 0), (0, 9, 9, 9))), Query(schema, ((0, (0,)), (1, (0, 1))), (), ())
        told = cheapest(query, data)
        self.assertEqual((0, 1), told.plan.order)
        lower = {**told.floors, (1,): told.floors[(1,)] - 1}
        self.assertIs(Cheapest(told.plan, lower).shows(query, data), True)
        least = {**told.floors, (0,): told.floors[(0,)] - 1}
        self.assertIs(Cheapest(told.plan, least).shows(query, data), False)

    def test_a_tuple_missing_or_too_many(self):
        for group in self.floors:
            fewer = {other: floor for other, floor in self.floors.items() if other != group}
            self.assertIs(self.told(fewer), False)
        for more in ((3,), (1, 0), (0, 0), (0, 1, 2, 3), (-1,), (2, 1, 0), (0, 2, 1)):
            self.assertIs(self.told({**self.floors, more: self.least}), False)
            swapped = {other: floor for other, floor in self.floors.items() if other != (0, 1)}
            self.assertIs(self.told({**swapped, more: self.least}), False)
        self.assertIs(self.told({}), False)

    def test_true_is_not_1(self):
        for group in ((True,), (False, 1), (False, True, 2), (0, True)):
            floors = {other: floor for other, floor in self.floors.items() if other != group}
            self.assertIs(self.told({**floors, group: self.floors[group]}), False, group)
        schema = Schema(2, (1,))
        data, query = Data(schema, ((0, 0),)), Query(schema, ((0, (0,)),), (), ())
        for floors, wanted in (
            ({(): 0, (0,): 0}, True), ({(): False, (0,): 0}, False), ({(): 0, (0,): False}, False),
            ({(): None, (0,): 0}, False), ({(): 0, (0,): "0"}, False), ({(): 0, (False,): 0}, False),
        ):
            self.assertIs(wanted, Cheapest(Plan((0,), ("scan",)), floors).shows(query, data))

    def test_each_plan(self):
        for (order, ways), total in self.costs.items():
            self.assertIs(total == self.least, self.told(self.floors, Plan(order, ways)))
            self.assertIs(total == self.least, self.told(self.floors, Plan(list(order), list(ways))))
        # The floors of a plan that costs more, up to this cost, are too high.
        for (order, ways), total in self.costs.items():
            floors = {**self.floors, (0, 1, 2): total}
            self.assertIs(total == self.least, self.told(floors, Plan(order, ways)))

    def test_plans_that_are_not_for_the_query(self):
        for order, ways in (
            ((0, 1), ("scan", "left")), ((0, 1, 2), ("scan", "left")), ((), ()), ((0, 1, 1), ("scan",) * 3),
            ((0, 1, 2), ("scan", "right", "scan")), ((False, True, 2), ("scan", "left", "gather")),
            ((0, 1, 2), ("gather", "left", "gather")), ((0, 1, 3), ("scan", "left", "gather")),
        ):
            self.assertIs(self.told(self.floors, Plan(order, ways)), False)

    def test_other_data_and_other_queries(self):
        told = cheapest(self.query, self.data)
        self.assertIs(told.shows(self.query, Data(self.schema, ((0,) * 9, (0,) * 3))), False)
        self.assertIs(told.shows(Query(self.schema, self.query.atoms[:2], (), ()), self.data), False)
        none = Query(self.schema, self.query.atoms, ((0, ()),), (0,))
        self.assertIs(told.shows(none, self.data), False)

    def test_attributes(self):
        floors, plan = dict(self.floors), cheapest(self.query, self.data).plan
        told = Cheapest(plan, floors)
        floors.clear()
        plan.ways = ()
        self.assertEqual(self.floors, told.floors)
        self.assertIs(told.shows(self.query, self.data), True)
        told.floors[()] = 1
        self.assertIs(told.shows(self.query, self.data), False)
        told.floors = dict(self.floors)
        self.assertIs(told.shows(self.query, self.data), True)
        told.plan = Plan((0, 1, 2), ("scan", "scan", "scan"))
        self.assertIs(told.shows(self.query, self.data), False)

    def test_results_are_new(self):
        def spoil(told):
            told.floors.clear()
            told.plan.order = ()
        self.assert_new_each_time(lambda: cheapest(self.query, self.data), spoil)

    def test_equality(self):
        plan, floors = PLAN, {(): 0, (0,): 2}
        same = Cheapest(Plan([0, 1], ["scan", "left"]), {(0,): 2, (): 0})
        different = (
            Cheapest(Plan((1, 0), ("scan", "left")), floors), Cheapest(plan, {(): 0}), Cheapest(plan, {(): 0, (0,): 3}),
        )
        self.assert_equality((Cheapest(plan, floors), same), different)

    def test_random_cheapest(self):
        chance = chance_of(44)
        for _ in range(25):
            schema = any_schema(chance, most_size=3)
            query, data = draw_query(chance, schema, most_atoms=3), draw_data(chance, schema, most=2)
            told = cheapest(query, data)
            self.assertEqual(right_floors(query, data), told.floors)
            group = chance.choice(list(told.floors))
            told.floors[group] += 1
            self.assertIs(told.shows(query, data), False)
