"""[19] Joins within little memory."""

from itertools import permutations

from surelyplan.errors import BadData, BadMemory, BadNumber, BadPlan, BadQuery, Unlike
from surelyplan.limits import least_moves, memory_needed, order_moves, step_moves
from surelyplan.queries import Query
from surelyplan.schemas import Data, Schema
from tests import slow
from tests.checks import DATA, QUERY, SCHEMA, Case, Fault, odd_except
from tests.random_cases import any_schema, chance_of, draw_data, draw_query
from tests.test_running import WRONG_ORDERS
from tests.test_sorting import by_dummies

OTHER = Data(Schema(2, (1, 2)), ((1, 1), (1, 1, 1, 1)))
SINGLE = Query(SCHEMA, ((0, (0, 1)),), (), ())
APART = Query(SCHEMA, ((0, (0, 1)), (1, (2,))), (), ())


def sorting(many, memory):
    runs = [min(memory, many - at) for at in range(0, many, memory)]
    return many + by_dummies(runs, memory - 1)


def moves(query, data, before, index, memory):
    """The ways of a step with the numbers of rows, from lists of all rows."""
    left, right = len(slow.rows(query, data, before)), len(slow.table_rows(data, query.atoms[index][0]))
    fillings = len(range(0, left, memory - 2))
    found = [("nested", left + right * fillings)]
    if set(slow.inner_variables(query, before)) & set(query.atoms[index][1]) and left <= 60 and right <= 60:
        found.append(("sorted", sorting(left, memory) + sorting(right, memory) + left + right))
    return found


def order_cost(query, data, order, memory):
    total = len(slow.table_rows(data, query.atoms[order[0]][0]))
    for step in range(1, len(order)):
        total += min(many for _, many in moves(query, data, order[:step], order[step], memory))
    return total


def least_cost(query, data, memory):
    return min(order_cost(query, data, order, memory) for order in permutations(range(len(query))))


class Moves(Case):

    def check(self, query, data, memory):
        kinds = set()
        for order in permutations(range(len(query))):
            for step in range(1, len(query)):
                wanted = moves(query, data, order[:step], order[step], memory)
                self.assertEqual(wanted, list(step_moves(query, order, step, data, memory).items()))
                kinds.add((len(wanted), min(wanted, key=lambda pair: pair[1])[0]))
            self.assertEqual(order_cost(query, data, order, memory), order_moves(query, order, data, memory))
        self.assertEqual(least_cost(query, data, memory), least_moves(query, data, memory))
        return kinds

    def test_against_all_rows(self):
        chance = chance_of(190)
        kinds, done = set(), 0
        while done < 150:
            schema = any_schema(chance, 3, 3)
            query, data = draw_query(chance, schema, 4, 4), draw_data(chance, schema, chance.choice((1, 2, 3, 9)))
            if max(len(query), 1) * sum(sum(counts) for counts in data.tables) <= 80:
                kinds |= self.check(query, data, 3 + done % 6)
                done += 1
        self.assertEqual({(1, "nested"), (2, "nested"), (2, "sorted")}, kinds)

    def test_each_memory(self):
        data = Data(SCHEMA, ((3, 5, 2, 4), (6, 7)))
        for memory in range(3, 9):
            self.check(QUERY, data, memory)
            self.check(APART, data, memory)
        self.assertEqual([14 + 13 * 14, 14 + 13 * 7, 14 + 13 * 5, 14 + 13 * 4, 14 + 13 * 3, 14 + 13 * 3], [
            step_moves(QUERY, (0, 1), 1, data, memory)["nested"] for memory in range(3, 9)
        ])

    def test_just_sixty_rows(self):
        schema = Schema(3, (2, 1))
        query = Query(schema, ((0, (0, 1)), (1, (0,))), (), ())
        sixty, more = Data(schema, ((9,) * 6 + (6, 0, 0), (1, 0, 0))), Data(schema, ((9,) * 6 + (7, 0, 0), (1, 0, 0)))
        self.assertEqual((60, 61), (sixty.rows(0), more.rows(0)))
        for memory in range(3, 9):
            for order in ((0, 1), (1, 0)):
                self.assertEqual(["nested", "sorted"], list(step_moves(query, order, 1, sixty, memory)))
                self.assertEqual(["nested"], list(step_moves(query, order, 1, more, memory)))
            self.check(query, sixty, memory)
            self.check(query, more, memory)
        # A filter leaves fewer rows of the atoms before, but not of the table that follows.
        few = Query(schema, query.atoms, ((0, (0,)),), ())
        self.assertEqual(["nested", "sorted"], list(step_moves(few, (0, 1), 1, more, 3)))
        self.assertEqual(["nested"], list(step_moves(few, (1, 0), 1, more, 3)))

    def test_no_common_variable(self):
        self.assertEqual(["nested"], list(step_moves(APART, (0, 1), 1, DATA, 3)))
        query = Query(SCHEMA, ((0, (0, 1)), (1, (2,)), (0, (2, 0))), (), ())
        self.assertEqual(["nested"], list(step_moves(query, (0, 1, 2), 1, DATA, 3)))
        self.assertEqual(["nested", "sorted"], list(step_moves(query, (0, 1, 2), 2, DATA, 3)))
        self.assertEqual(["nested", "sorted"], list(step_moves(query, (0, 2, 1), 1, DATA, 3)))

    def test_empty_tables(self):
        empty = Data(SCHEMA, ((0,) * 4, (0, 0)))
        self.assertEqual({"nested": 0, "sorted": 0}, step_moves(QUERY, (0, 1), 1, empty, 3))
        self.assertEqual((0, 0, 3), (order_moves(QUERY, (1, 0), empty, 3), least_moves(QUERY, empty, 8), memory_needed(QUERY, empty, 0)))
        half = Data(SCHEMA, ((0,) * 4, (2, 2)))
        self.assertEqual([("nested", 0), ("sorted", 4 + 4 + 4)], list(step_moves(QUERY, (0, 1), 1, half, 3).items()))
        self.assertEqual([("nested", 4), ("sorted", 4 + 4 + 4)], list(step_moves(QUERY, (1, 0), 1, half, 3).items()))
        nothing = Query(SCHEMA, QUERY.atoms, ((1, ()),), ())
        self.assertEqual([("nested", 0), ("sorted", 3 + 3)], list(step_moves(nothing, (0, 1), 1, DATA, 3).items()))
        self.assertEqual(3, order_moves(nothing, (0, 1), DATA, 3))

    def test_one_atom(self):
        self.assertEqual((3, 3, 3, None), (
            order_moves(SINGLE, (0,), DATA, 3), least_moves(SINGLE, DATA, 8), memory_needed(SINGLE, DATA, 3), memory_needed(SINGLE, DATA, 2),
        ))
        for step in (0, 1, 2):
            self.assert_fault(step_moves, (SINGLE, (0,), step, DATA, 3), BadNumber)

    def test_many_rows_are_quick(self):
        schema = Schema(6, (2,))
        data = Data(schema, ((9,) * 36,))
        for atoms in (
            ((0, (0, 1)), (0, (2, 3)), (0, (4, 5)), (0, (0, 2))), ((0, (0, 1)), (0, (1, 2)), (0, (2, 3)), (0, (3, 0))),
            ((0, (0, 1)), (0, (1, 2)), (0, (2, 3)), (0, (4, 5))),
        ):
            query = Query(schema, atoms, (), ())
            costs = [least_moves(query, data, memory) for memory in range(3, 9)]
            self.assertEqual(sorted(costs, reverse=True), costs)
            self.assertEqual(costs[0], min(order_moves(query, order, data, 3) for order in permutations(range(4))))
            self.assertIsNone(memory_needed(query, data, 9999))


class Memory(Case):

    def test_against_all_memories(self):
        chance = chance_of(191)
        found = set()
        for _ in range(80):
            schema = any_schema(chance, 3, 2)
            query, data = draw_query(chance, schema, 3, 3), draw_data(chance, schema, 2)
            costs = {memory: least_cost(query, data, memory) for memory in range(3, 9)}
            for most in {cost + more for cost in costs.values() for more in (-1, 0, 1)} - {-1}:
                wanted = min([memory for memory in costs if costs[memory] <= most], default=None)
                self.assertEqual(wanted, memory_needed(query, data, most))
                found.add(wanted)
        self.assertEqual({None, 3, 4, 5, 6, 7, 8}, found)

    def test_just_enough(self):
        data = Data(Schema(2, (1, 2)), [[3, 1], [0, 2, 1, 0]])
        query = Query(data.schema, ((0, (0,)), (1, (0, 1))), (), (1,))
        self.assertEqual([18, 14, 10, 10, 10, 10], [least_moves(query, data, memory) for memory in range(3, 9)])
        self.assertEqual([None, 5, 5, 5, 4, 4, 3], [memory_needed(query, data, most) for most in (9, 10, 11, 13, 14, 17, 18)])
        self.assertEqual((3, None), (memory_needed(query, data, 9999), memory_needed(query, data, 0)))


class Errors(Case):

    def test_order(self):
        self.assert_error_order(step_moves, (QUERY, (0, 1), 1, DATA, 3), [
            Fault(BadQuery, {0: None}, part=None), Fault(BadData, {3: None}, table=None), Fault(Unlike, {3: OTHER}), Fault(BadPlan, {1: [0, 1]}),
            Fault(BadNumber, {2: 2}), Fault(BadMemory, {4: 2}),
        ])
        self.assert_error_order(order_moves, (QUERY, (0, 1), DATA, 3), [
            Fault(BadQuery, {0: None}, part=None), Fault(BadData, {2: None}, table=None), Fault(Unlike, {2: OTHER}), Fault(BadPlan, {1: [0, 1]}),
            Fault(BadMemory, {3: 9}),
        ])
        self.assert_error_order(least_moves, (QUERY, DATA, 3), [
            Fault(BadQuery, {0: None}, part=None), Fault(BadData, {1: None}, table=None), Fault(Unlike, {1: OTHER}), Fault(BadMemory, {2: 2}),
        ])
        self.assert_error_order(memory_needed, (QUERY, DATA, 20), [
            Fault(BadQuery, {0: None}, part=None), Fault(BadData, {1: None}, table=None), Fault(Unlike, {1: OTHER}), Fault(BadNumber, {2: -1}),
        ])

    def test_wrong_arguments(self):
        for call, good, data, order, memory in [
            (step_moves, (QUERY, (0, 1), 1, DATA, 3), 3, 1, 4), (order_moves, (QUERY, (0, 1), DATA, 3), 2, 1, 3), (least_moves, (QUERY, DATA, 3), 1, None, 2),
            (memory_needed, (QUERY, DATA, 20), 1, None, None),
        ]:
            self.assert_refused(call, good, 0, odd_except(Query), BadQuery, part=None)
            self.assert_refused(call, good, data, odd_except(Data), BadData, table=None)
            if order is not None:
                self.assert_refused(call, good, order, list(WRONG_ORDERS) + odd_except(), BadPlan)
            if memory is not None:
                self.assert_refused(call, good, memory, odd_except() + [2, 9, 0, -3], BadMemory)
        self.assert_refused(step_moves, (QUERY, (0, 1), 1, DATA, 3), 2, odd_except() + [0, 2, -1], BadNumber)
        wrong = [value for value in odd_except() if value != 99 or isinstance(value, bool)]
        self.assert_refused(memory_needed, (QUERY, DATA, 20), 2, wrong + [10000], BadNumber)
        self.assert_new_each_time(lambda: step_moves(QUERY, (0, 1), 1, DATA, 3), lambda found: found.clear())
