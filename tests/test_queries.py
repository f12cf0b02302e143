"""[3] Queries and [4] answers."""

from surelyplan.errors import BadData, BadQuery, BadSchema, Unlike
from surelyplan.queries import Query, answer, answer_size, assignments
from surelyplan.schemas import Data, Schema
from tests import oracle
from tests.checks import DATA, QUERY, SCHEMA, Case, Fault, odd_except
from tests.random_cases import any_schema, chance_of, draw_data, draw_query

WIDE = Schema(3, (2, 1, 2, 1))
PAIR = ((0, (0, 1)),)


class Atoms(Case):

    def test_good_atoms(self):
        good = (
            ((1, (0,)),), ((0, (0, 0)),), ((0, (1, 0)),), ((0, (0, 1)), (0, (1, 0))),
            ((0, (0, 1)), (2, (2, 3)), (0, (4, 5)), (1, (5,))), ((0, (0, 1)), (2, (0, 1)), (1, (0,)), (3, (0,))),
        )
        for atoms in good:
            query = Query(WIDE, atoms, (), ())
            self.assertEqual((atoms, len(atoms), oracle.variables(query)), (query.atoms, len(query), query.variables()))

    def test_one_to_four(self):
        four = ((0, (0, 1)), (2, (0, 1)), (1, (0,)), (3, (0,)))
        for many in (1, 2, 3, 4):
            self.assertEqual(many, len(Query(WIDE, four[:many], (), ())))
        for atoms in ((), four + ((1, (1,)),)):
            self.assert_fault(Query, (WIDE, atoms, (), ()), BadQuery, {"part": "atoms"})

    def test_wrong_atoms(self):
        wrong = (
            [(0, (0, 1))], ([0, (0, 1)],), ((0, [0, 1]),), ((0, (0,)),), ((1, (0, 1)),), ((0, (0, 1, 2)),), ((0, ()),),
            ((4, (0,)),), ((-1, (0,)),), ((True, (0,)),), ((1, (False,)),), ((0, (0, True)),), ((0,),), ((0, (0, 1), 0),),
            ((0, (-1, 0)),), ((0, ("a", 0)),), ((0, (None, 0)),), (0, (0, 1)), ((None, (0,)),), "ab", {0: 1}, ("ab",),
            ((0, (0, 1)), None), ((1, ((0,),)),), ((1, ([0],)),), (([0], (0,)),),
        )
        for atoms in wrong:
            self.assert_fault(Query, (WIDE, atoms, (), ()), BadQuery, {"part": "atoms"})
        self.assert_refused(Query, (WIDE, PAIR, (), ()), 1, odd_except(), BadQuery, part="atoms")

    def test_atoms_are_different(self):
        self.assert_fault(Query, (WIDE, PAIR + PAIR, (), ()), BadQuery, {"part": "atoms"})
        twice = ((0, (0, 1)), (1, (0,)), (0, (0, 1)))
        self.assert_fault(Query, (WIDE, twice, (), ()), BadQuery, {"part": "atoms"})

    def test_each_variable_occurs(self):
        gaps = (((1, (1,)),), ((0, (0, 2)),), ((0, (1, 2)),), ((0, (0, 1)), (1, (3,))), ((0, (5, 5)),))
        for atoms in gaps:
            self.assert_fault(Query, (WIDE, atoms, (), ()), BadQuery, {"part": "atoms"})

    def test_greatest_variable(self):
        three = ((0, (0, 1)), (0, (2, 3)), (0, (4, 5)))
        self.assertEqual(6, Query(WIDE, three, (), ()).variables())
        self.assert_fault(Query, (WIDE, three + ((1, (6,)),), (), ()), BadQuery, {"part": "atoms"})


class FiltersAndShown(Case):

    def test_good_filters(self):
        good = ((), ((0, ()),), ((0, (0, 1, 2)),), ((1, (2,)),), ((0, (0, 2)), (1, (1,))))
        for filters in good:
            self.assertEqual(filters, Query(WIDE, PAIR, filters, ()).filters)

    def test_wrong_filters(self):
        wrong = (
            [], [(0, (1,))], ((0,),), ((0, (1,), 2),), ([0, (1,)],), ((0, [1]),), ((0, 1),), ((2, (1,)),), ((-1, (1,)),),
            ((0, (3,)),), ((0, (-1,)),), ((0, (1, 1)),), ((0, (2, 1)),), ((0, (True,)),), ((False, (1,)),), ((0, ("1",)),),
            ((1, (0,)), (0, (0,))), ((0, (0,)), (0, (1,))), ((0, (0,)), None), (0, (1,)), ((None, (1,)),), ((0, None),),
        )
        for filters in wrong:
            self.assert_fault(Query, (WIDE, PAIR, filters, ()), BadQuery, {"part": "filters"})
        odd = [value for value in odd_except() if value != ()]
        self.assert_refused(Query, (WIDE, PAIR, (), ()), 2, odd, BadQuery, part="filters")

    def test_good_shown(self):
        for shown in ((), (0,), (1,), (0, 1), (1, 0)):
            self.assertEqual(shown, Query(WIDE, PAIR, (), shown).shown)

    def test_wrong_shown(self):
        wrong = ([], [0], (0, 0), (1, 0, 1), (2,), (-1,), (True,), (0, True), ("0",), (None,), ((0,),), ([0],), 0, "a")
        for shown in wrong:
            self.assert_fault(Query, (WIDE, PAIR, (), shown), BadQuery, {"part": "shown"})
        odd = [value for value in odd_except() if value != ()]
        self.assert_refused(Query, (WIDE, PAIR, (), ()), 3, odd, BadQuery, part="shown")

    def test_first_part_that_is_wrong(self):
        self.assert_error_order(Query, (WIDE, PAIR, (), (0,)), [
            Fault(BadSchema, {0: None}), Fault(BadQuery, {1: ((0, (0, 2)),)}, part="atoms"),
            Fault(BadQuery, {2: ((9, ()),)}, part="filters"), Fault(BadQuery, {3: (7,)}, part="shown"),
        ])
        self.assert_fault(Query, (WIDE, None, None, None), BadQuery, {"part": "atoms"})
        self.assert_fault(Query, (WIDE, PAIR, None, None), BadQuery, {"part": "filters"})

    def test_not_a_schema(self):
        self.assert_refused(Query, (WIDE, PAIR, (), ()), 0, odd_except(Schema), BadSchema)

    def test_allowed(self):
        query = Query(WIDE, ((0, (0, 1)), (1, (2,))), ((0, (0, 2)), (2, ())), ())
        self.assertEqual([[0, 2], [0, 1, 2], []], [query.allowed(variable) for variable in range(3)])

    def test_allowed_is_new(self):
        filtered = Query(WIDE, PAIR, ((0, (0, 2)),), ())
        for variable in (0, 1):
            self.assert_new_each_time(lambda: filtered.allowed(variable), lambda values: values.append(9))

    def test_equality(self):
        query = Query(WIDE, PAIR, ((0, (1,)),), (0, 1))
        different = (
            Query(Schema(4, (2, 1, 2, 1)), PAIR, ((0, (1,)),), (0, 1)), Query(WIDE, ((0, (1, 0)),), ((0, (1,)),), (0, 1)),
            Query(WIDE, PAIR, (), (0, 1)), Query(WIDE, PAIR, ((0, (1,)),), (1, 0)), Query(WIDE, PAIR, ((1, (1,)),), (0, 1)),
        )
        self.assert_equality((query, Query(WIDE, PAIR, ((0, (1,)),), (0, 1))), different)


class Answers(Case):

    def check(self, query, data):
        counts = oracle.assignments(query, data)
        told = assignments(query, data)
        self.assertEqual([pair for pair in sorted(counts.items()) if pair[1] > 0], list(told.items()))
        sums = answer(query, data)
        self.assertEqual(list(oracle.answer(query, data).items()), list(sums.items()))
        self.assertEqual(sum(counts.values()), answer_size(query, data))
        self.assertEqual(sum(sums.values()), answer_size(query, data))

    def test_against_all_values_of_all_variables(self):
        chance = chance_of(2)
        for turn in range(300):
            schema = any_schema(chance, most_size=4)
            query = draw_query(chance, schema, most_variables=chance.randint(1, 6))
            self.check(query, draw_data(chance, schema, most=(1, 2, 9)[turn % 3]))

    def test_six_values(self):
        chance = chance_of(3)
        for _ in range(5):
            schema = Schema(6, (2, 1))
            self.check(draw_query(chance, schema, most_variables=4), draw_data(chance, schema, most=1))

    def test_no_filter_and_nothing_allowed(self):
        one = Query(SCHEMA, ((0, (0, 1)),), (), (1,))
        self.assertEqual({(0,): 1, (1,): 2}, answer(one, DATA))
        none = Query(SCHEMA, ((0, (0, 1)),), ((0, ()),), (1,))
        self.assertEqual([{}, 0, {}], [answer(none, DATA), answer_size(none, DATA), assignments(none, DATA)])

    def test_variable_twice_in_an_atom(self):
        loop = Query(SCHEMA, ((0, (0, 0)),), (), (0,))
        data = Data(SCHEMA, ((2, 5, 7, 3), (0, 0)))
        self.assertEqual([{(0,): 2, (1,): 3}, 5], [answer(loop, data), answer_size(loop, data)])
        self.assertEqual({(0,): 2, (1,): 3}, assignments(loop, data))

    def test_nothing_shown(self):
        query = Query(SCHEMA, QUERY.atoms, (), ())
        self.assertEqual({(): 5}, answer(query, DATA))
        self.assertEqual({}, answer(query, Data(SCHEMA, ((0, 0, 0, 0), (9, 9)))))

    def test_shown_in_another_order(self):
        data = Data(SCHEMA, ((0, 2, 1, 0), (0, 0)))
        atoms = ((0, (0, 1)),)
        self.assertEqual([((0, 1), 2), ((1, 0), 1)], list(answer(Query(SCHEMA, atoms, (), (0, 1)), data).items()))
        self.assertEqual([((0, 1), 1), ((1, 0), 2)], list(answer(Query(SCHEMA, atoms, (), (1, 0)), data).items()))

    def test_rows_count_in_each_atom(self):
        query = Query(SCHEMA, ((1, (0,)), (1, (1,))), (), (0,))
        data = Data(SCHEMA, ((0, 0, 0, 0), (2, 3)))
        self.assertEqual({(0,): 10, (1,): 15}, answer(query, data))
        self.assertEqual({(0, 0): 4, (0, 1): 6, (1, 0): 6, (1, 1): 9}, assignments(query, data))

    def test_results_are_new(self):
        self.assert_new_each_time(lambda: answer(QUERY, DATA), lambda told: told.clear())
        self.assert_new_each_time(lambda: assignments(QUERY, DATA), lambda told: told.clear())

    def test_errors(self):
        other = Data(Schema(3, (2, 1)), ((0,) * 9, (0,) * 3))
        for call in (answer, answer_size, assignments):
            self.assert_refused(call, (QUERY, DATA), 0, odd_except(Query), BadQuery, part=None)
            self.assert_refused(call, (QUERY, DATA), 1, odd_except(Data), BadData, table=None)
            self.assert_fault(call, (None, None), BadQuery, {"part": None})
            self.assert_fault(call, (QUERY, other), Unlike)
            self.assert_fault(call, (QUERY, Data(Schema(2, (2,)), ((0,) * 4,))), Unlike)
