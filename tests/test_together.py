"""[1] to [35] together: what several files say of the same data, while a desk changes them."""

from itertools import permutations

from surelyplan.blocks import block_ends, blocks_to_read, rows_from_blocks, run_count, stored_blocks
from surelyplan.choosing import cost_ends, find_calmest, judge_plans, least_regret, regret
from surelyplan.copies import greatest_load, loads_with_copy, read_evenly, surely_greatest_load
from surelyplan.desks import Desk
from surelyplan.errors import Disagrees, NotPossible, PlanError
from surelyplan.expressions import evaluate, expression_of
from surelyplan.limits import least_moves, memory_needed, order_moves
from surelyplan.plans import all_plans, cheapest, cost, least_cost, step_costs
from surelyplan.polynomials import judge_equal, polynomials, value_on
from surelyplan.proofs import prove
from surelyplan.queries import Query, answer, answer_size, assignments
from surelyplan.questions import ask, left_after
from surelyplan.rules import possible_steps, rewrite
from surelyplan.running import Run, run_through
from surelyplan.schemas import Data, Schema
from surelyplan.shipping import most_moved, moved, run_apart, ship, ship_surely
from surelyplan.sizes import cover_bound, size_ends
from surelyplan.sorting import sort_rows
from surelyplan.statistics import Statistics, agree, all_tables, broken_notes, has_tables
from surelyplan.texts import data_text, notes_text, query_text, read_data, read_notes, read_query, read_schema, schema_text
from surelyplan.weighing import follows, needed_notes, tightest, weighed_ends
from tests import oracle
from tests.checks import Case
from tests.random_cases import chance_of, draw_query

NARROW = Schema(2, (2, 1))
WIDE = Schema(3, (2, 1, 1))


def close_notes(data, spread):
    """Notes that leave some tables of few rows, with which the data agree."""
    notes = []
    for table in range(len(data.schema)):
        notes.append(("rows", table, max(0, data.rows(table) - spread), data.rows(table) + spread))
    return notes


def draw_operation(chance, desk):
    """One operation of a desk; it may be refused."""
    schema = desk.known.schema
    table = chance.randrange(len(schema))
    cell = chance.choice(schema.cells(table))
    kind = chance.choice(("put", "take", "note", "drop", "undo"))
    if kind == "put":
        return lambda: desk.put(table, cell)
    if kind == "take":
        return lambda: desk.take(table, cell)
    if kind == "note":
        many = desk.now.count_of(table, cell)
        return lambda: desk.note(("cell", table, cell, max(0, many - chance.randint(0, 1)), many + chance.randint(0, 2)))
    if kind == "drop":
        return lambda: desk.drop(chance.randrange(max(1, len(desk.known))))
    return desk.undo


class Together(Case):

    def check_texts(self, desk, query):
        """What is written is read again."""
        schema = desk.now.schema
        self.assertEqual(schema, read_schema(schema_text(schema)))
        self.assertEqual(desk.now, read_data(schema, data_text(desk.now)))
        self.assertEqual(desk.known, read_notes(schema, notes_text(desk.known)))
        self.assertEqual(query, read_query(schema, query_text(query)))

    def check_answers(self, data, query):
        """All ways to an answer lead to the same one."""
        wanted = oracle.answer(query, data)
        self.assertEqual(wanted, answer(query, data))
        self.assertEqual(sum(wanted.values()), answer_size(query, data))
        self.assertEqual(wanted, evaluate(data, expression_of(query)))
        terms = polynomials(data.schema, expression_of(query)) if len(query) < 3 else {}
        values = {row: value_on(polynomial, data) for row, polynomial in terms.items()}
        if terms:
            self.assertEqual(wanted, {row: value for row, value in values.items() if value})
        for order in permutations(range(len(query))):
            self.assertEqual(wanted, run_through(query, data, order))
            apart = run_apart(query, data, 2, (0,) * len(data.schema), order, ship(query, data, 2, (0,) * len(data.schema), order).ways)
            rows = [row for part in apart for row in part]
            self.assertEqual(wanted, {row: sum(part.get(row, 0) for part in apart) for row in sorted(set(rows))})
        return wanted

    def check_runs(self, chance, data, query, wanted):
        """A run tells what its order does not matter for."""
        orders = list(permutations(range(len(query))))
        run = Run(query, data, orders[0])
        while not run.is_done():
            run.step()
            run.change_order(chance.choice(orders))
            sums = run.told()
            for row, count in run.rest().items():
                sums[row] = sums.get(row, 0) + count
            self.assertEqual(wanted, sums)
        self.assertTrue(all(data.rows(table) == many for table, many in run.seen()))

    def check_costs(self, data, query):
        """Costs of plans, of moves and of orders."""
        plans = all_plans(query)
        costs = [cost(query, plan, data) for plan in plans]
        self.assertEqual(min(costs), least_cost(query, data))
        self.assertIs(cheapest(query, data).shows(query, data), True)
        self.assertEqual(0, min(regret(query, plan, data) for plan in plans))
        self.assertEqual({answer_size(query, data)}, {step_costs(query, plan, data)[-1][1] for plan in plans})
        moves = [least_moves(query, data, memory) for memory in range(3, 9)]
        self.assertEqual(moves[0], min(order_moves(query, order, data, 3) for order in permutations(range(len(query)))))
        if moves[0] <= 9999:
            self.assertEqual(3, memory_needed(query, data, moves[0]))

    def check_blocks(self, data, query):
        """The rows of each atom come out of the blocks that must be read."""
        for index, (table, variables) in enumerate(query.atoms):
            for first in range(data.schema.widths[table]):
                rows = rows_from_blocks(query, data, index, first, 3)
                single = assignments(Query(data.schema, ((table, tuple(range(len(variables)))),), (), ()), data)
                kept = [cell for cell, count in single.items() for _ in range(count) if self.fits(query, variables, cell)]
                self.assertEqual(sorted(kept), sorted(rows))
                blocks = stored_blocks(data, table, first, 3)
                self.assertEqual(data.rows(table), sum(len(block) for block in blocks))
                self.assertTrue(set(blocks_to_read(query, data, index, first, 3)) <= set(range(len(blocks))))
                self.assertTrue(run_count(data, table, first)[first] <= data.schema.size)
                numbers = [value for block in blocks for cell in block for value in cell]
                self.assertEqual(sorted(numbers[:60]), sort_rows(numbers[:60], 4)[0])

    def fits(self, query, variables, cell):
        values = {}
        for variable, value in zip(variables, cell):
            if values.setdefault(variable, value) != value or value not in query.allowed(variable):
                return False
        return True

    def check_loads(self, desk, query):
        """The rows that machines read, with copies and without."""
        homes = tuple((table % 3, 3) for table in range(len(desk.now.schema)))
        told = read_evenly(query, desk.now, 4, homes, ())
        self.assertIs(told.shows(query, desk.now, 4, homes, ()), True)
        load = greatest_load(query, desk.now, 4, homes, ())
        self.assertTrue(load <= surely_greatest_load(desk.known, query, 4, homes, ()))
        self.assertTrue(all(other <= load for other in loads_with_copy(query, desk.now, 4, homes).values()))

    def check_notes(self, desk, query):
        """What is said for all agreeing data holds for those of the desk."""
        stats, data = desk.known, desk.now
        self.assertEqual([], broken_notes(stats, data))
        self.assertTrue(agree(stats, data) and has_tables(stats))
        for table in range(len(stats.schema)):
            low, high = tightest(stats, table, ("rows",))
            self.assertTrue(low <= data.rows(table) <= high)
            self.assertTrue(follows(stats, ("rows", table, low, high)))
            weights = tuple(range(len(stats.schema.cells(table))))
            low, high = weighed_ends(stats, table, weights)
            self.assertTrue(low <= sum(a * b for a, b in zip(weights, data.tables[table])) <= high)
        kept = Statistics(stats.schema, [stats.notes[index] for index in needed_notes(stats)])
        self.assertTrue(all(follows(kept, note) for note in stats.notes))
        self.assertTrue(answer_size(query, data) <= cover_bound(stats, query))

    def check_choices(self, desk, query):
        """Choices over all agreeing data, where there are few."""
        stats, data = desk.known, desk.now
        low, high = size_ends(stats, query)
        self.assertTrue(low <= answer_size(query, data) <= high)
        calm = find_calmest(stats, query)
        self.assertTrue(regret(query, calm.plan, data) <= calm.number == least_regret(stats, query))
        low, high = cost_ends(stats, query, calm.plan)
        self.assertTrue(low <= cost(query, calm.plan, data) <= high)
        self.assertIs(judge_plans(stats, query).shows(stats, query), True)
        order, places = tuple(range(len(query))), (0,) * len(stats.schema)
        ways = ship_surely(stats, query, 2, places, order).ways
        real, bounds = moved(query, data, 2, places, order, ways), most_moved(stats, query, 2, places, order, ways)
        self.assertTrue(all(many <= bound for many, bound in zip(real, bounds)))
        for index, atom in enumerate(query.atoms):
            low, high = block_ends(stats, query, index, 0, 2)
            self.assertTrue(low <= len(blocks_to_read(query, data, index, 0, 2)) <= high)

    def check_questions(self, desk):
        """Answered with the data of the desk, questions lead to its tables."""
        for table in range(len(desk.known.schema)):
            try:
                tree = ask(desk.known, table).tree
            except PlanError:
                continue
            left = all_tables(desk.known, table)
            while tree is not None:
                quantity, parts = tree
                value = oracle.quantity_value(desk.known.schema, table, quantity, desk.now.tables[table])
                self.assertIn(value, left_after(desk.known, table, quantity))
                left = [counts for counts in left if oracle.quantity_value(desk.known.schema, table, quantity, counts) == value]
                tree = parts[value]
            self.assertEqual([desk.now.tables[table]], left)

    def check_all(self, chance, desk, query):
        data = desk.now
        self.check_texts(desk, query)
        wanted = self.check_answers(data, query)
        self.check_runs(chance, data, query, wanted)
        self.check_costs(data, query)
        self.check_blocks(data, query)
        self.check_loads(desk, query)
        self.check_notes(desk, query)
        self.check_questions(desk)
        self.assertEqual(data, desk.now)

    def check_desk(self, chance, schema, steps):
        start = Data(schema, [[chance.randint(0, 2) for _ in schema.cells(table)] for table in range(len(schema))])
        desk = Desk(Statistics(schema, close_notes(start, 3)), start)
        chosen, refused = 0, 0
        for _ in range(steps):
            before = (desk.known, desk.now, desk.journal)
            try:
                draw_operation(chance, desk)()
            except PlanError:
                refused += 1
                self.assertEqual(before, (desk.known, desk.now, desk.journal))
            query = draw_query(chance, schema, 3, 3)
            self.check_all(chance, desk, query)
            try:
                self.check_choices(desk, query)
                chosen += 1
            except PlanError as error:
                self.assertEqual("TooLarge", error.__class__.__name__)
        self.replay(desk, start)
        return chosen, refused

    def replay(self, desk, start):
        """All operations, done again at a new desk, lead to the same state; undone, they lead back."""
        again = Desk(Statistics(start.schema, close_notes(start, 3)), start)
        for operation in desk.journal:
            call = {"put": again.put, "take": again.take, "note": again.note, "drop": again.drop}[operation[0]]
            call(*operation[1:])
        self.assertEqual((desk.known, desk.now, desk.journal), (again.known, again.now, again.journal))
        for _ in range(len(desk)):
            again.undo()
        self.assertEqual((start, ()), (again.now, tuple(again.journal)))

    def test_desks_that_change(self):
        chance = chance_of(1)
        told = [self.check_desk(chance, (NARROW, WIDE)[case % 2], 14) for case in range(8)]
        self.assertTrue(all(sum(many) > 5 for many in zip(*told)), told)

    def test_refused_operations_change_nothing(self):
        data = Data(NARROW, ((9, 0, 0, 0), (1, 0)))
        desk = Desk(Statistics(NARROW, [("rows", 1, 1, 1)]), data)
        for call, error in (
            (lambda: desk.put(0, (0, 0)), NotPossible), (lambda: desk.put(1, (0,)), Disagrees), (lambda: desk.take(1, (0,)), Disagrees),
            (lambda: desk.take(0, (1, 1)), NotPossible), (lambda: desk.note(("rows", 1, 2, 3)), Disagrees),
        ):
            with self.assertRaises(error):
                call()
            self.assertEqual((data, [], 1), (desk.now, desk.journal, len(desk.known)))

    def test_rules_lead_to_proofs(self):
        chance = chance_of(2)
        for _ in range(12):
            query = draw_query(chance, NARROW, 2, 3)
            expression = expression_of(query)
            for rule, path in possible_steps(NARROW, expression)[:4]:
                other = rewrite(NARROW, expression, rule, path)
                proof = prove(NARROW, expression, other, 2)
                self.assertTrue(len(proof) <= 1)
                self.assertIs(proof.shows(NARROW, expression, other), True)
                self.assertIs(judge_equal(NARROW, expression, other).shows(NARROW, expression, other), True)
                self.assertIsNot(judge_equal(NARROW, expression, other), judge_equal(NARROW, expression, other))
