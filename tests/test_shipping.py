"""[21] Shipping: rows that are moved between machines."""

from itertools import permutations, product

from surelyplan.errors import BadData, BadMachines, BadNotes, BadPlan, BadQuery, BadShipping, Disagrees, TooLarge, Unlike
from surelyplan.queries import Query, answer
from surelyplan.schemas import Data, Schema
from surelyplan.shipping import Shipped, most_moved, moved, run_apart, ship, ship_surely
from surelyplan.statistics import Statistics
from tests import oracle, slow
from tests.checks import DATA, QUERY, SCHEMA, STATS, Case, Fault, odd_except
from tests.random_cases import any_schema, chance_of, draw_data, draw_query
from tests.test_running import WRONG_ORDERS
from tests.test_weighing import draw_agreeing

NARROW = Statistics(SCHEMA, STATS.notes + (("cell", 1, (0,), 1, 1), ("cell", 1, (1,), 0, 2)))
NONE = Statistics(SCHEMA, [("rows", 1, 3, 2)])
GATHER, COPY = ("gather",), ("copy",)
SPLIT = (("split", 1),)
ON_DATA = (QUERY, DATA, 2, (0, 0), (0, 1))
FOR_STATS = (NARROW, QUERY, 2, (0, 0), (0, 1))


def all_places(schema):
    return list(product(*[[None] + list(range(width)) for width in schema.widths]))


def total(part):
    """The sums of the dicts of all machines."""
    sums = {}
    for here in part:
        for told, count in here.items():
            sums[told] = sums.get(told, 0) + count
    return {told: sums[told] for told in sorted(sums)}


def combinations_of(stats, query):
    used = sorted({table for table, _ in query.atoms})
    zero = [(0,) * len(oracle.cells(stats.schema, table)) for table in range(len(stats.schema.widths))]
    for chosen in product(*[oracle.agreeing(stats, table) for table in used]):
        tables = list(zero)
        for table, counts in zip(used, chosen):
            tables[table] = counts
        yield Data(stats.schema, tables)


def greatest_size(stats, query, group):
    return max(len(slow.rows(query, data, group)) for data in combinations_of(stats, query))


def bounds(stats, query, many, places, order, ways):
    """The bounds of all steps."""
    spot, found = slow.first_spot(query, places, order[0]), []
    for step, way in enumerate(ways):
        made, added = greatest_size(stats, query, order[:step + 1]), greatest_size(stats, query, order[step + 1:step + 2])
        after, own = slow.spot_after(spot, way), slow.first_spot(query, places, order[step + 1])
        if way == COPY:
            found.append(added * (many - 1))
        else:
            found.append(0 if many == 1 else (made if after != spot else 0) + (added if after != own else 0))
        spot = after
    return found


class Moved(Case):

    def check(self, query, data, many, places, order):
        by_hand = {}
        for ways in slow.ways_of(query, order):
            numbers, shown = slow.moved_by_hand(query, data, many, places, order, ways)
            by_hand[ways] = numbers
            arguments = (query, data, many, places, order, ways)
            self.assertEqual(numbers, moved(*arguments))
            apart = run_apart(*arguments)
            self.assertEqual(shown, apart)
            self.assertEqual([list(here) for here in shown], [list(here) for here in apart])
            self.assertEqual(answer(query, data), total(apart))
        told = ship(query, data, many, places, order)
        self.assertEqual(min(sum(numbers) for numbers in by_hand.values()), sum(by_hand[told.ways]))
        self.assertEqual(slow.least_sums(query, places, order, by_hand.get), told.sums)
        self.assertIs(told.shows(query, data, many, places, order), True)
        return len(by_hand)

    def test_against_rows_that_are_moved_one_by_one(self):
        chance = chance_of(60)
        for turn in range(80):
            schema = any_schema(chance, most_size=3, most_tables=3)
            query = draw_query(chance, schema, most_atoms=3, most_variables=chance.randint(1, 4))
            data = draw_data(chance, schema, most=1 + turn % 2)
            order = tuple(chance.sample(range(len(query)), len(query)))
            self.check(query, data, 1 + turn % 3, chance.choice(all_places(schema)), order)

    def test_every_place_order_and_number_of_machines(self):
        schema = Schema(3, (2, 1))
        data = Data(schema, ((1, 0, 2, 0, 1, 1, 0, 2, 1), (1, 0, 2)))
        query = Query(schema, ((0, (0, 1)), (1, (1,)), (0, (1, 0))), ((0, (0, 2)),), (1,))
        for many, places, order in product((1, 2, 3), all_places(schema), permutations(range(3))):
            self.assertTrue(self.check(query, data, many, places, order) >= 9)

    def test_four_atoms(self):
        chance = chance_of(61)
        schema = Schema(3, (2, 1, 2))
        for atoms in (
            ((0, (0, 1)), (2, (1, 2)), (0, (2, 0)), (1, (0,))), ((0, (0, 0)), (2, (0, 1)), (1, (2,)), (2, (2, 1))),
        ):
            query, data = Query(schema, atoms, (), (1, 2)), draw_data(chance, schema, most=1)
            for many in (2, 3):
                self.check(query, data, many, chance.choice(all_places(schema)), (2, 0, 3, 1))

    def test_one_atom(self):
        for many, places in product((1, 2, 3), all_places(SCHEMA)):
            query = Query(SCHEMA, ((0, (1, 0)),), (), (1,))
            spot = {None: None, 0: 1, 1: 0}[places[0]]
            self.assertEqual(Shipped((), {(1, spot): 0}), ship(query, DATA, many, places, (0,)))
            self.assertEqual([], moved(query, DATA, many, places, (0,), ()))
            self.assertEqual(slow.moved_by_hand(query, DATA, many, places, (0,), ())[1],
                             run_apart(query, DATA, many, places, (0,), ()))

    def test_one_machine_moves_nothing(self):
        for way in (GATHER, COPY, ("split", 1)):
            self.assertEqual([0], moved(QUERY, DATA, 1, (0, None), (0, 1), (way,)))
            self.assertEqual([answer(QUERY, DATA)], run_apart(QUERY, DATA, 1, (0, None), (0, 1), (way,)))

    def test_rows_that_change_their_spot_but_not_their_machine(self):
        schema = Schema(4, (1, 1))
        query = Query(schema, ((0, (0,)), (1, (0,))), (), (0,))
        data = Data(schema, ((1, 2, 3, 4), (1, 1, 1, 1)))
        self.assertEqual([2 + 4 + 1 + 1], moved(query, data, 2, (0, 0), (0, 1), (GATHER,)))
        self.assertEqual([2 + 3 + 1 + 1], moved(query, data, 3, (0, 0), (0, 1), (GATHER,)))
        self.assertEqual([2 + 4], moved(query, data, 2, (None, 0), (0, 1), (("split", 0),)))
        self.assertEqual([1 + 1], moved(query, data, 3, (0, None), (1, 0), (("split", 0),)))
        self.assertEqual([2 + 3], moved(query, data, 3, (None, 0), (1, 0), (("split", 0),)))
        self.assertEqual([0], moved(query, data, 3, (0, 0), (1, 0), (("split", 0),)))
        self.assertEqual([10], moved(query, data, 2, (0, 0), (1, 0), (COPY,)))
        self.assertEqual([8], moved(query, data, 3, (0, 0), (0, 1), (COPY,)))

    def test_a_variable_twice_and_filters(self):
        schema = Schema(2, (2,))
        data = Data(schema, ((1, 2, 3, 4),))
        query = Query(schema, ((0, (0, 0)), (0, (0, 1))), ((1, (1,)),), (1,))
        # Only rows with equal values are moved, and only those with 1 in the second column.
        self.assertEqual([4 + 4], moved(query, data, 2, (0,), (0, 1), (GATHER,)))
        self.assertEqual([6], moved(query, data, 2, (0,), (0, 1), (COPY,)))
        self.assertEqual([5], moved(query, data, 2, (0,), (1, 0), (COPY,)))
        self.assertEqual([4 + 6], moved(query, data, 2, (1,), (0, 1), (GATHER,)))
        self.assertEqual([2], moved(query, data, 2, (1,), (0, 1), (("split", 0),)))
        none = Query(schema, query.atoms, ((0, ()),), ())
        for way in (GATHER, COPY, ("split", 0)):
            self.assertEqual([0], moved(none, data, 3, (1,), (0, 1), (way,)))
            self.assertEqual([{}, {}, {}], run_apart(none, data, 3, (1,), (0, 1), (way,)))
        self.assertEqual({(1, 0): 0, (2, None): 0, (2, 0): 0}, ship(none, data, 3, (1,), (0, 1)).sums)

    def test_several_empty_machines(self):
        self.assertEqual([{(0,): 1}, {(0,): 2, (1,): 2}, {}], run_apart(QUERY, DATA, 3, (0, 0), (0, 1), SPLIT))
        self.assertEqual([answer(QUERY, DATA), {}, {}], run_apart(QUERY, DATA, 3, (0, 0), (0, 1), (GATHER,)))

    def test_large_queries(self):
        schema = Schema(6, (2, 2, 2, 2))
        data = Data(schema, [[9] * 36] * 4)
        query = Query(schema, ((0, (0, 1)), (1, (2, 3)), (2, (4, 5)), (3, (0, 2))), (), (0,))
        order, places = (0, 1, 2, 3), (0, 1, None, 0)
        told = ship(query, data, 3, places, order)
        self.assertIs(told.shows(query, data, 3, places, order), True)
        numbers = moved(query, data, 3, places, order, told.ways)
        self.assertEqual(min(sums for (many, _), sums in told.sums.items() if many == 4), sum(numbers))
        self.assertEqual([432, 0, 216], numbers)
        self.assertEqual(answer(query, data), total(run_apart(query, data, 3, places, order, told.ways)))
        self.assertEqual(324 ** 3 * 2 // 3 + 216, moved(query, data, 3, places, order, (COPY, COPY, GATHER))[2])

    def test_results_are_new(self):
        def spoil(told):
            told.sums.clear()
        self.assert_new_each_time(lambda: ship(*ON_DATA), spoil)
        self.assert_new_each_time(lambda: run_apart(*ON_DATA, SPLIT), lambda part: part[0].clear())
        self.assert_new_each_time(lambda: moved(*ON_DATA, SPLIT), lambda numbers: numbers.clear())


class Surely(Case):

    def check(self, stats, query, many, places, order):
        every = {}
        for ways in slow.ways_of(query, order):
            every[ways] = bounds(stats, query, many, places, order, ways)
            self.assertEqual(every[ways], most_moved(stats, query, many, places, order, ways))
        told = ship_surely(stats, query, many, places, order)
        self.assertEqual(min(sum(numbers) for numbers in every.values()), sum(every[told.ways]))
        self.assertEqual(slow.least_sums(query, places, order, every.get), told.sums)
        self.assertIs(told.shows_surely(stats, query, many, places, order), True)
        for data in combinations_of(stats, query):
            for ways in every:
                numbers = moved(query, data, many, places, order, ways)
                self.assertTrue(all(number <= most for number, most in zip(numbers, every[ways])))

    def test_against_all_agreeing_data(self):
        chance = chance_of(62)
        done = 0
        while done < 25:
            schema = (Schema(2, (2, 1)), Schema(3, (1, 1)), Schema(2, (1, 1, 2)))[done % 3]
            stats, _ = draw_agreeing(chance, schema, 12, 1, 2)
            query = draw_query(chance, schema, most_atoms=3, most_variables=3)
            if len(list(combinations_of(stats, query))) <= 20:
                order = tuple(chance.sample(range(len(query)), len(query)))
                self.check(stats, query, 1 + done % 3, chance.choice(all_places(schema)), order)
                done += 1

    def test_rows_that_may_stay(self):
        # The bound counts all rows whose spot changes, although some of them stay at their machine.
        self.assertEqual([6], most_moved(*FOR_STATS, (GATHER,)))
        self.assertEqual([3], most_moved(*FOR_STATS, SPLIT))
        self.assertEqual([3], most_moved(*FOR_STATS, (COPY,)))
        three = (NARROW, QUERY, 3, (0, 0), (0, 1))
        self.assertEqual([[6], [3], [6]], [most_moved(*three, (way,)) for way in (GATHER, ("split", 1), COPY)])
        one = (NARROW, QUERY, 1, (0, 0), (0, 1))
        self.assertEqual([[0], [0], [0]], [most_moved(*one, (way,)) for way in (GATHER, ("split", 1), COPY)])
        self.assertEqual([0], most_moved(NARROW, QUERY, 2, (None, None), (0, 1), (GATHER,)))
        self.assertEqual([3], most_moved(NARROW, QUERY, 2, (None, 0), (0, 1), (GATHER,)))

    def test_filters(self):
        few = Query(SCHEMA, QUERY.atoms, ((1, (1,)),), (0,))
        none = Query(SCHEMA, QUERY.atoms, ((1, ()),), (0,))
        self.assertEqual([2 + 2], most_moved(NARROW, few, 2, (0, 0), (0, 1), (GATHER,)))
        self.assertEqual([4], most_moved(NARROW, few, 3, (0, 0), (0, 1), (COPY,)))
        self.assertEqual([0], most_moved(NARROW, none, 3, (0, 0), (0, 1), (GATHER,)))
        self.assertEqual({0}, set(ship_surely(NARROW, none, 3, (0, 0), (0, 1)).sums.values()))

    def test_one_atom_needs_no_sizes(self):
        # There are very many agreeing tables, but no step whose sizes would be needed.
        many = Statistics(SCHEMA, [])
        query = Query(SCHEMA, ((0, (0, 1)),), (), ())
        self.assertEqual(Shipped((), {(1, 1): 0}), ship_surely(many, query, 2, (1, 0), (0,)))
        self.assertEqual([], most_moved(many, query, 2, (1, 0), (0,), ()))

    def test_too_large(self):
        schema = Schema(2, (2, 1, 1))
        query = Query(schema, ((0, (0, 1)), (1, (1,)), (2, (0,))), (), ())
        small = [("cell", 0, cell, 1, 1) for cell in oracle.cells(schema, 0)]
        # 1, 100 and 100 tables: the query with all atoms would be too large, but no step needs its size.
        stats = Statistics(schema, small)
        arguments = (stats, query, 2, (0, 0, 0), (0, 1, 2))
        told = ship_surely(*arguments)
        self.assertIs(told.shows_surely(*arguments), True)
        self.assertEqual([4 + 18, 36], most_moved(*arguments, (GATHER, ("split", 0))))
        # With the other tables first, the first two atoms have 10000 combinations.
        beyond = (stats, query, 2, (0, 0, 0), (1, 2, 0))
        for call, more in ((ship_surely, ()), (told.shows_surely, ()), (most_moved, ((COPY, COPY),))):
            self.assert_fault(call, beyond + more, TooLarge)
            self.assert_fault(call, (stats, query, 1, (0, 0, 0), (1, 2, 0)) + more, TooLarge)
        # A single atom with too many tables, at the end and at the beginning.
        wide = Statistics(schema, [("rows", 1, 0, 0), ("rows", 2, 0, 0)])
        for order, ways in (((1, 0, 2), (COPY, COPY)), ((0, 1, 2), (COPY, COPY)), ((1, 2, 0), (COPY, COPY))):
            self.assert_fault(ship_surely, (wide, query, 2, (0, 0, 0), order), TooLarge)
            self.assert_fault(most_moved, (wide, query, 2, (0, 0, 0), order, ways), TooLarge)

    def test_limit_just_within_and_just_beyond(self):
        schema = Schema(2, (1, 1, 1, 1))
        query = Query(schema, ((0, (0,)), (1, (0,)), (2, (0,)), (3, (0,))), (), ())
        order, places = (0, 1, 2, 3), (0, 0, 0, 0)
        # 3 times 10, 10 times 10 and 1 tables for the first three atoms are 3000 combinations, 100 for the last one.
        within = Statistics(schema, [("cell", 0, (0,), 0, 2), ("rows", 2, 18, 18)])
        self.assertEqual([0, 0, 0], most_moved(within, query, 2, places, order, (("split", 0),) * 3))
        self.assertEqual([11 + 18, 18, 18], most_moved(within, query, 2, places, order, (GATHER, COPY, GATHER)))
        # 19, 79 and 2 tables are 3002 combinations.
        notes = [("rows", 0, 8, 9), ("rows", 1, 0, 12), ("cell", 2, (0,), 0, 1), ("cell", 2, (1,), 0, 0)]
        beyond = Statistics(schema, notes)
        self.assert_fault(most_moved, (beyond, query, 2, places, order, (COPY,) * 3), TooLarge)
        self.assert_fault(ship_surely, (beyond, query, 2, places, order), TooLarge)

    def test_results_are_new(self):
        self.assert_new_each_time(lambda: ship_surely(*FOR_STATS), lambda told: told.sums.clear())
        self.assert_new_each_time(lambda: most_moved(*FOR_STATS, SPLIT), lambda numbers: numbers.clear())


class ShowsShipped(Case):

    def setUp(self):
        schema = Schema(3, (2, 1))
        data = Data(schema, ((1, 0, 2, 0, 1, 1, 0, 2, 1), (1, 0, 2)))
        query = Query(schema, ((0, (0, 1)), (1, (1,)), (0, (1, 0))), ((0, (0, 2)),), (1,))
        self.on_data = (query, data, 3, (1, None), (0, 2, 1))
        notes = [("cell", 0, cell, count, count) for cell, count in zip(oracle.cells(schema, 0), data.tables[0])]
        self.for_stats = (Statistics(schema, notes), query, 2, (1, 0), (0, 2, 1))

    def kinds(self):
        """Both kinds of evidence: what is right, how it is checked, and the numbers of all ways."""
        query, data, many, places, order = self.on_data
        every = {ways: moved(*self.on_data, ways) for ways in slow.ways_of(query, order)}
        yield ship(*self.on_data), lambda told: told.shows(*self.on_data), every
        every = {ways: most_moved(*self.for_stats, ways) for ways in slow.ways_of(query, order)}
        yield ship_surely(*self.for_stats), lambda told: told.shows_surely(*self.for_stats), every

    def test_each_way(self):
        for right, shows, every in self.kinds():
            least = min(sum(numbers) for numbers in every.values())
            self.assertTrue(len({sum(numbers) for numbers in every.values()}) > 2)
            for ways, numbers in every.items():
                self.assertIs(sum(numbers) == least, shows(Shipped(ways, right.sums)))
                self.assertIs(sum(numbers) == least, shows(Shipped(list(ways), right.sums)))

    def test_ways_that_steps_cannot_have(self):
        for right, shows, _ in self.kinds():
            self.assertIs(shows(right), True)
            for ways in (
                (), (COPY,), (COPY, COPY, COPY), (("split", 2), COPY), (("split", 7), COPY), (("split", True), COPY),
                (("split", False), COPY), (("split",), COPY), (("copy", 0), COPY), (("gather", 1), COPY), ((), COPY),
                (("join",), COPY), (COPY, ("split", 2)), (("split", -1), COPY),
            ):
                self.assertIs(shows(Shipped(ways, right.sums)), False, ways)

    def test_true_is_not_1_in_ways(self):
        told = ship(*ON_DATA)
        self.assertEqual(SPLIT, told.ways)
        self.assertIs(Shipped((("split", True),), told.sums).shows(*ON_DATA), False)

    def test_each_sum(self):
        for right, shows, _ in self.kinds():
            self.assertIs(shows(Shipped(right.ways, dict(reversed(list(right.sums.items()))))), True)
            for place in right.sums:
                for other in (right.sums[place] + 1, right.sums[place] - 1, None):
                    self.assertIs(shows(Shipped(right.ways, {**right.sums, place: other})), False)
                fewer = {key: right.sums[key] for key in right.sums if key != place}
                self.assertIs(shows(Shipped(right.ways, fewer)), False)
            for more in ((0, None), (1, None), (4, 0), (2, 2), (4, None), (1, 0)):
                self.assertNotIn(more, right.sums)
                self.assertIs(shows(Shipped(right.ways, {**right.sums, more: 0})), False)
            self.assertIs(shows(Shipped(right.ways, {})), False)

    def test_true_is_not_1_in_sums(self):
        told = ship(*ON_DATA)
        self.assertEqual({(1, 0): 0, (2, None): 3, (2, 0): 3, (2, 1): 1}, told.sums)
        rest = {(2, None): 3, (2, 0): 3}
        for sums in (
            {(1, 0): False, (2, 1): 1}, {(1, 0): 0, (2, 1): True}, {(True, 0): 0, (2, 1): 1}, {(1, False): 0, (2, 1): 1},
            {(1, 0): 0, (2, True): 1},
        ):
            self.assertIs(Shipped(told.ways, {**rest, **sums}).shows(*ON_DATA), False)
        self.assertIs(Shipped(told.ways, {**rest, (1, 0): 0, (2, 1): 1}).shows(*ON_DATA), True)

    def test_attributes(self):
        ways, sums = [("split", 1)], {(1, 0): 0, (2, None): 3, (2, 0): 3, (2, 1): 1}
        told = Shipped(ways, sums)
        ways.pop()
        sums.clear()
        self.assertEqual((("split", 1),), told.ways)
        self.assertIs(told.shows(*ON_DATA), True)
        self.assertIs(told.shows_surely(*FOR_STATS), False)
        told.sums = ship_surely(*FOR_STATS).sums
        self.assertIs(told.shows_surely(*FOR_STATS), True)
        self.assertIs(told.shows(*ON_DATA), False)
        told.ways = [COPY]
        self.assertIs(told.shows_surely(*FOR_STATS), True)
        told.ways = [GATHER]
        self.assertIs(told.shows_surely(*FOR_STATS), False)

    def test_equality(self):
        same = Shipped([("split", 1)], {(2, 1): 1, (1, 0): 0})
        different = (
            Shipped((COPY,), {(1, 0): 0, (2, 1): 1}), Shipped(SPLIT, {(1, 0): 0}), Shipped((), {(1, 0): 0, (2, 1): 1}),
        )
        self.assert_equality((Shipped(SPLIT, {(1, 0): 0, (2, 1): 1}), same), different)


class ShippingErrors(Case):

    WRONG_MACHINES = (0, 4, -1, 10 ** 20, True, False, None, "2", (2,), [2])
    WRONG_PLACES = (
        (), (0,), (0, 0, 0), (0, 1), (2, 0), (-1, 0), (True, 0), (0, False), [0, 0], (0, "0"), ("0", 0), None, 0, {0: 0},
        (0, (0,)), ((None,), 0), "00",
    )
    WRONG_WAYS = (
        (), (COPY, COPY), COPY, GATHER, [COPY], (["copy"],), ("copy",), (("copy", 1),), (("gather", 0),), (("split",),),
        (("split", 0),), (("split", 2),), (("split", True),), (("split", None),), (("split", 1, 1),), (("Copy",),), None,
        ((),), (None,), 0, {COPY: 1}, "copy",
    )

    def calls(self):
        """The calls with right arguments, on data and for statistics."""
        told = ship(*ON_DATA)
        yield ship, ON_DATA
        yield told.shows, ON_DATA
        yield moved, ON_DATA + (SPLIT,)
        yield run_apart, ON_DATA + (SPLIT,)
        yield ship_surely, FOR_STATS
        yield told.shows_surely, FOR_STATS
        yield most_moved, FOR_STATS + (SPLIT,)

    def test_wrong_machines_places_orders_and_ways(self):
        for call, good in self.calls():
            self.assert_refused(call, good, 2, self.WRONG_MACHINES + tuple(odd_except()), BadMachines)
            self.assert_refused(call, good, 3, self.WRONG_PLACES + tuple(odd_except()), BadMachines)
            self.assert_refused(call, good, 4, WRONG_ORDERS + tuple(odd_except()), BadPlan)
            if len(good) == 6:
                self.assert_refused(call, good, 5, self.WRONG_WAYS + tuple(odd_except()), BadShipping)

    def test_order_of_errors_on_data(self):
        other = Data(Schema(2, (2,)), ((1, 1, 1, 1),))
        for call, good in list(self.calls())[:4]:
            last = [Fault(BadMachines, {2: 4}), Fault(BadMachines, {3: ()}), Fault(BadPlan, {4: (0,)})]
            last += [Fault(BadShipping, {5: ()})] if len(good) == 6 else []
            first = [Fault(BadQuery, {0: None}, part=None), Fault(BadData, {1: None}, table=None)]
            self.assert_error_order(call, good, first + last)
            self.assert_error_order(call, good, [Fault(Unlike, {1: other})] + last)
            self.assert_refused(call, good, 0, odd_except(Query), BadQuery, part=None)
            self.assert_refused(call, good, 1, odd_except(Data), BadData, table=None)

    def test_order_of_errors_for_statistics(self):
        other = Query(Schema(2, (2,)), ((0, (0, 1)),), (), ())
        wide = Statistics(SCHEMA, [])
        for call, good in list(self.calls())[4:]:
            last = [Fault(BadMachines, {2: 4}), Fault(BadMachines, {3: ()}), Fault(BadPlan, {4: (0,)})]
            last += [Fault(BadShipping, {5: ()})] if len(good) == 6 else []
            first = [Fault(BadNotes, {0: None}, index=None), Fault(BadQuery, {1: None}, part=None)]
            self.assert_error_order(call, good, first + last)
            self.assert_error_order(call, good, [Fault(Unlike, {1: other})] + last)
            self.assert_error_order(call, good, [Fault(Disagrees, {0: NONE}, index=1)] + last)
            # The size of the statistics is asked for last.
            self.assert_error_order(call, good, last)
            self.assert_fault(call, (wide,) + good[1:], TooLarge)
            for fault in last:
                places = {**fault.places, 0: wide}
                self.assert_fault(call, tuple(places.get(at, item) for at, item in enumerate(good)), fault.error)
            self.assert_fault(call, (NONE, None) + good[2:], BadQuery, {"part": None})
            self.assert_fault(call, (NONE, other) + good[2:], Unlike)
            self.assert_refused(call, good, 0, odd_except(Statistics), BadNotes, index=None)
            self.assert_refused(call, good, 1, odd_except(Query), BadQuery, part=None)
