"""[13] Runs."""

from itertools import permutations

from surelyplan.errors import BadData, BadPlan, BadQuery, NotPossible, Unlike
from surelyplan.queries import Query
from surelyplan.running import Run, run_through
from surelyplan.schemas import Data, Schema
from tests import oracle, slow
from tests.checks import DATA, QUERY, SCHEMA, Case, Fault, odd_except
from tests.random_cases import any_schema, chance_of, draw_data, draw_query

WRONG_ORDERS = (
    (0,), (), (0, 0), (0, 2), (-1, 0), (0, 1, 2), [0, 1], [1, 0], (False, True), (0, True), ("0", "1"), (0, None), "01",
    ((0, 1),), {0: 0, 1: 1}, {0, 1}, range(2), 0, 1, None,
)


class Pile:
    """A run in the words of the document."""

    def __init__(self, query, data, order):
        self.query, self.data = query, data
        self.rows = [({}, tuple(order), 1)]
        self.told, self.seen = {}, set()

    def step(self):
        values, needed, count = self.rows.pop()
        if not needed:
            shown = tuple(values[variable] for variable in self.query.shown)
            self.told[shown] = self.told.get(shown, 0) + count
            return 0
        table, variables = self.query.atoms[needed[0]]
        self.seen.add((table, sum(self.data.tables[table])))
        many = len(self.rows)
        for cell, times in zip(oracle.cells(self.data.schema, table), self.data.tables[table]):
            made = slow.fits(self.query, variables, cell, values) if times else None
            if made is not None:
                self.rows.append((made, needed[1:], count * times))
        return len(self.rows) - many

    def change_order(self, order):
        self.rows = [
            (values, tuple(index for index in order if index in needed), count) for values, needed, count in self.rows
        ]


def added(one, other):
    """The sum of two parts of an answer."""
    return {told: one.get(told, 0) + other.get(told, 0) for told in sorted(set(one) | set(other))}


def ordered(sums):
    return list(sums.items())


class Runs(Case):

    def check_state(self, run, pile, whole):
        self.assertEqual(pile.rows, run.waiting())
        self.assertEqual((len(pile.rows), pile.rows == []), (len(run), run.is_done()))
        self.assertEqual(ordered({told: pile.told[told] for told in sorted(pile.told)}), ordered(run.told()))
        self.assertEqual(sorted(pile.seen), run.seen())
        self.assertEqual(ordered(whole), ordered(added(run.told(), run.rest())))
        self.assertEqual(sorted(run.rest()), list(run.rest()))
        # Nothing that was asked has changed the run.
        self.assertEqual(pile.rows, run.waiting())

    def follow(self, chance, query, data, changes):
        order = tuple(chance.sample(range(len(query)), len(query)))
        run, pile, whole = Run(query, data, order), Pile(query, data, order), oracle.answer(query, data)
        self.check_state(run, pile, whole)
        while pile.rows:
            if chance.random() < changes:
                other = tuple(chance.sample(range(len(query)), len(query)))
                self.assertIsNone(run.change_order(other))
                pile.change_order(other)
                self.check_state(run, pile, whole)
            self.assertEqual(pile.step(), run.step())
            self.check_state(run, pile, whole)
        self.assertEqual(whole, run.told())
        self.assertEqual({}, run.rest())

    def test_each_step(self):
        chance = chance_of(50)
        for turn in range(40):
            schema = any_schema(chance, most_size=3)
            query = draw_query(chance, schema, most_atoms=1 + turn % 3, most_variables=3)
            self.follow(chance, query, draw_data(chance, schema, most=1 + turn % 2), 0)

    def test_changes_of_the_order_between_steps(self):
        chance = chance_of(51)
        for turn in range(40):
            schema = any_schema(chance, most_size=2)
            self.follow(chance, draw_query(chance, schema, most_variables=3), draw_data(chance, schema, most=1), 0.3)

    def test_the_first_row_and_a_row_that_needs_no_atom(self):
        run = Run(QUERY, DATA, (1, 0))
        self.assertEqual([({}, (1, 0), 1)], run.waiting())
        self.assertEqual([1, False, {}, []], [len(run), run.is_done(), run.told(), run.seen()])
        self.assertEqual(2, run.step())
        self.assertEqual([({1: 0}, (0,), 1), ({1: 1}, (0,), 2)], run.waiting())
        self.assertEqual([(1, 3)], run.seen())
        self.assertEqual(2, run.step())
        self.assertEqual([({1: 0}, (0,), 1), ({0: 0, 1: 1}, (), 2), ({0: 1, 1: 1}, (), 2)], run.waiting())
        self.assertEqual(0, run.step())
        self.assertEqual([{(1,): 2}, {(0,): 3}, 2], [run.told(), run.rest(), len(run)])
        self.assertEqual([(0, 3), (1, 3)], run.seen())

    def test_told_parts_are_ascending(self):
        run = Run(QUERY, DATA, (0, 1))
        run.finish()
        self.assertEqual([((0,), 3), ((1,), 2)], ordered(run.told()))
        steps = Run(QUERY, DATA, (0, 1))
        while not steps.is_done():
            steps.step()
        self.assertEqual([((0,), 3), ((1,), 2)], ordered(steps.told()))

    def test_a_step_that_makes_nothing(self):
        none = Query(SCHEMA, QUERY.atoms, ((0, ()),), (0,))
        run = Run(none, DATA, (0, 1))
        self.assertEqual(0, run.step())
        self.assertEqual([True, {}, {}, [(0, 3)]], [run.is_done(), run.told(), run.rest(), run.seen()])
        empty = Data(SCHEMA, ((0, 0, 0, 0), (1, 1)))
        self.assertEqual(0, Run(QUERY, empty, (0, 1)).step())
        self.assertEqual({}, run_through(QUERY, empty, (1, 0)))

    def test_seen_after_changes_of_the_order(self):
        schema = Schema(2, (1, 1, 1))
        data = Data(schema, ((2, 0), (0, 3), (4, 4)))
        query = Query(schema, ((2, (0,)), (1, (0,)), (0, (0,))), (), ())
        run = Run(query, data, (0, 1, 2))
        run.change_order((2, 1, 0))
        self.assertEqual([], run.seen())
        run.step()
        self.assertEqual([(0, 2)], run.seen())
        run.change_order((1, 0, 2))
        self.assertEqual([(0, 2)], run.seen())
        self.assertEqual([({0: 0}, (1, 0), 2)], run.waiting())
        self.assertEqual(0, run.step())
        self.assertEqual([(0, 2), (1, 3)], run.seen())
        self.assertEqual({}, run.finish())
        self.assertEqual([(0, 2), (1, 3)], run.seen())

    def test_seen_of_a_table_in_several_atoms(self):
        query = Query(Schema(2, (2,)), ((0, (0, 1)), (0, (1, 2))), (), ())
        run = Run(query, Data(query.schema, ((1, 1, 0, 2),)), (0, 1))
        run.finish()
        self.assertEqual([(0, 4)], run.seen())

    def test_finish_from_anywhere(self):
        chance = chance_of(52)
        for _ in range(20):
            schema = any_schema(chance, most_size=3)
            query, data = draw_query(chance, schema), draw_data(chance, schema, most=2)
            run = Run(query, data, tuple(range(len(query))))
            for _ in range(chance.randint(0, 9)):
                if not run.is_done():
                    run.step()
            whole = oracle.answer(query, data)
            self.assertEqual(ordered(whole), ordered(run.finish()))
            self.assertEqual([True, 0, whole, whole], [run.is_done(), len(run), run.told(), run.finish()])

    def test_run_through(self):
        chance = chance_of(53)
        for _ in range(20):
            schema = any_schema(chance, most_size=4)
            query, data = draw_query(chance, schema, most_atoms=3), draw_data(chance, schema)
            for order in permutations(range(len(query))):
                self.assertEqual(ordered(oracle.answer(query, data)), ordered(run_through(query, data, order)))

    def test_large_queries(self):
        schema = Schema(6, (2, 2, 2, 2))
        data = Data(schema, [[9] * 36] * 4)
        query = Query(schema, ((0, (0, 1)), (1, (2, 3)), (2, (4, 5)), (3, (0, 2))), (), (0,))
        whole = {(value,): 9 ** 4 * 6 ** 5 for value in range(6)}
        self.assertEqual(whole, run_through(query, data, (0, 1, 2, 3)))
        run = Run(query, data, (3, 2, 1, 0))
        for _ in range(20):
            run.step()
        self.assertEqual(whole, added(run.told(), run.rest()))


class Branches(Case):

    def test_branches_go_on_independently(self):
        run = Run(QUERY, DATA, (0, 1))
        run.step()
        run.step()
        before = run.waiting(), run.told(), run.seen()
        twin = run.branch()
        self.assertEqual(before, (twin.waiting(), twin.told(), twin.seen()))
        twin.step()
        twin.change_order((1, 0))
        twin.finish()
        self.assertEqual(before, (run.waiting(), run.told(), run.seen()))
        rest = run.rest()
        again = run.branch()
        run.step()
        run.finish()
        self.assertEqual(before, (again.waiting(), again.told(), again.seen()))
        self.assertEqual(rest, again.rest())
        self.assertEqual(run.finish(), again.finish())

    def test_seen_of_a_branch(self):
        run = Run(QUERY, DATA, (0, 1))
        twin = run.branch()
        twin.finish()
        self.assertEqual([[], [(0, 3), (1, 3)]], [run.seen(), twin.seen()])
        other = twin.branch()
        self.assertEqual([(0, 3), (1, 3)], other.seen())

    def test_branches_of_branches(self):
        chance = chance_of(54)
        schema = Schema(2, (2, 1, 2))
        query = Query(schema, ((0, (0, 1)), (1, (1,)), (2, (0, 2))), (), (2,))
        data = draw_data(chance, schema, most=2)
        order = (1, 2, 0)
        runs = [(Run(query, data, order), Pile(query, data, order))]
        whole = oracle.answer(query, data)
        for _ in range(60):
            run, pile = chance.choice(runs)
            if chance.random() < 0.3:
                twin = Pile(query, data, order)
                twin.rows, twin.told, twin.seen = list(pile.rows), dict(pile.told), set(pile.seen)
                runs.append((run.branch(), twin))
            elif pile.rows:
                self.assertEqual(pile.step(), run.step())
        for run, pile in runs:
            self.assertEqual(pile.rows, run.waiting())
            self.assertEqual((pile.told, sorted(pile.seen)), (run.told(), run.seen()))
            self.assertEqual(whole, added(run.told(), run.rest()))


class Caller(Case):

    def test_results_that_are_changed_by_the_caller(self):
        run = Run(QUERY, DATA, (0, 1))
        for _ in range(3):
            run.step()

        def spoil_rows(rows):
            rows[0][0].clear()
            rows.pop()
        for call, spoil in (
            (run.waiting, spoil_rows), (run.told, lambda sums: sums.clear()), (run.rest, lambda sums: sums.clear()),
            (run.seen, lambda pairs: pairs.pop()), (run.waiting, lambda rows: rows[0][0].update({0: 1, 1: 0})),
            (run.told, lambda sums: sums.update({(5,): 5})),
        ):
            self.assert_new_each_time(call, spoil)
        self.assertEqual(oracle.answer(QUERY, DATA), added(run.told(), run.rest()))
        run.finish()
        self.assert_new_each_time(run.finish, lambda sums: sums.clear())

    def test_orders_that_are_used_twice(self):
        order = (0, 1)
        one, other = Run(QUERY, DATA, order), Run(QUERY, DATA, order)
        one.step()
        self.assertEqual([({}, (0, 1), 1)], other.waiting())


class RunErrors(Case):

    def test_nothing_waits(self):
        run = Run(QUERY, DATA, (0, 1))
        whole = run.finish()
        for _ in range(2):
            self.assert_fault(run.step, (), NotPossible)
            self.assertEqual([whole, True, 0, {}], [run.told(), run.is_done(), len(run), run.rest()])
        run.change_order((1, 0))
        self.assertEqual(whole, run.finish())

    def test_wrong_orders(self):
        run = Run(QUERY, DATA, (0, 1))
        run.step()
        before = run.waiting()
        for order in WRONG_ORDERS:
            for call, arguments in (
                (Run, (QUERY, DATA, order)), (run_through, (QUERY, DATA, order)), (run.change_order, (order,)),
            ):
                self.assert_fault(call, arguments, BadPlan)
            self.assertEqual(before, run.waiting())
        for value in odd_except():
            self.assert_fault(run.change_order, (value,), BadPlan)
            self.assert_fault(Run, (QUERY, DATA, value), BadPlan)

    def test_order_of_errors(self):
        other = Data(Schema(2, (2,)), ((1, 1, 1, 1),))
        for call in (Run, run_through):
            good = (QUERY, DATA, (1, 0))
            self.assert_error_order(call, good, [
                Fault(BadQuery, {0: None}, part=None), Fault(BadData, {1: None}, table=None), Fault(BadPlan, {2: (0,)}),
            ])
            self.assert_error_order(call, good, [Fault(Unlike, {1: other}), Fault(BadPlan, {2: [0, 1]})])
            self.assert_refused(call, good, 0, odd_except(Query), BadQuery, part=None)
            self.assert_refused(call, good, 1, odd_except(Data), BadData, table=None)
