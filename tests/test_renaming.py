"""[20] Renaming."""

from itertools import product

from surelyplan.errors import BadQuery, Unlike
from surelyplan.queries import Query
from surelyplan.renaming import Apart, Renamed, judge_renamed, same_counts
from surelyplan.schemas import Data, Schema
from surelyplan.within import frozen, show_same
from tests import oracle
from tests.checks import DATA, Case, odd_except
from tests.random_cases import any_schema, chance_of, draw_data, draw_query
from tests.test_within import EDGE, FORK, STEP, WAY, draw_pair, graph


def renamed(chance, query):
    """A query that is the same but for the numbers of the variables and the order of the atoms."""
    many = oracle.variables(query)
    mapping = chance.sample(range(many), many)
    atoms = [(table, oracle.image(mapping, inner)) for table, inner in query.atoms]
    chance.shuffle(atoms)
    return Query(query.schema, tuple(atoms), (), oracle.image(mapping, query.shown))


class Renaming(Case):

    def check(self, one, other):
        wanted = oracle.renamings(one, other)
        told = judge_renamed(one, other)
        self.assertIs(told.shows(one, other), True)
        self.assertIs(same_counts(one, other), wanted != [])
        if wanted:
            self.assertIsInstance(told, Renamed)
            self.assertEqual(tuple, told.mapping.__class__)
            self.assertIn(told.mapping, wanted)
        else:
            self.assertIsInstance(told, Apart)
            size = told.data.schema.size
            self.assertEqual(one.schema.widths, told.data.schema.widths)
            here, there = [oracle.answer(oracle.read_for(query, size), told.data) for query in (one, other)]
            self.assertNotEqual(here, there)
        return wanted != []

    def test_against_all_renamings(self):
        chance = chance_of(50)
        for _ in range(150):
            one, other = draw_pair(chance)
            self.check(one, other)
            self.check(other, one)

    def test_renamed_queries(self):
        chance = chance_of(51)
        for _ in range(80):
            one = draw_query(chance, any_schema(chance), most_variables=chance.randint(1, 6), filtered=False)
            self.assertIs(self.check(one, renamed(chance, one)), True)

    def test_queries_that_are_nearly_renamed(self):
        chance = chance_of(52)
        apart = 0
        for _ in range(150):
            one = draw_query(chance, EDGE, most_variables=4, filtered=False, shown=chance.randint(0, 2))
            other = renamed(chance, one)
            atoms = list(other.atoms)
            place = chance.randrange(len(atoms))
            atoms[place] = (0, atoms[place][1][::-1])
            used = sorted({variable for _, inner in atoms for variable in inner})
            if len(set(atoms)) == len(atoms) and used == list(range(len(used))):
                other = Query(EDGE, tuple(atoms), (), other.shown)
                apart += not self.check(one, other)
        self.assertTrue(apart > 20)

    def test_all_small_queries_of_one_table(self):
        pairs = [(0, pair) for pair in product(range(3), repeat=2)]
        queries = []
        for atoms in oracle.every_group(pairs):
            used = sorted({variable for _, inner in atoms for variable in inner})
            if 1 <= len(atoms) <= 2 and used == list(range(len(used))):
                queries += [Query(EDGE, atoms, (), shown) for shown in ((), (0,), (len(used) - 1,))]
        for one in queries:
            for other in queries:
                if len(one.shown) == len(other.shown):
                    self.check(one, other)

    def test_queries_that_show_the_same_but_have_other_counts(self):
        self.assertEqual([True, False], [show_same(STEP, FORK), same_counts(STEP, FORK)])
        self.check(STEP, FORK)
        self.check(FORK, STEP)
        one, other = graph((0, 1), (0, 2), (3, 1)), graph((0, 1), (2, 1))
        self.assertEqual([True, False], [show_same(one, other), same_counts(one, other)])
        self.check(one, other)

    def test_as_many_atoms_but_other_counts(self):
        # The first query has a mapping to all atoms of the second one, but not the other way round.
        schema = Schema(2, (2, 1))
        one = Query(schema, ((0, (0, 1)), (1, (2,))), (), ())
        other = Query(schema, ((0, (0, 1)), (1, (1,))), (), ())
        self.assertIs(self.check(one, other), False)
        self.assertIs(self.check(other, one), False)
        self.assertIs(self.check(graph((0, 1), (2, 3), shown=()), graph((0, 1), (1, 2), shown=())), False)

    def test_one_more_atom_with_the_same_answers_on_single_rows(self):
        schema = Schema(2, (1, 1))
        one = Query(schema, ((0, (0,)),), (), (0,))
        other = Query(schema, ((0, (0,)), (0, (1,))), (), (0,))
        self.assertIs(self.check(one, other), False)
        self.assertIs(self.check(other, one), False)

    def test_shown_in_another_order(self):
        one, other = graph((0, 1), shown=(0, 1)), graph((0, 1), shown=(1, 0))
        self.assertIs(self.check(one, other), False)
        one, other = graph((0, 1), (1, 0), shown=(0, 1)), graph((0, 1), (1, 0), shown=(1, 0))
        self.assertIs(self.check(one, other), True)
        self.assertEqual((1, 0), judge_renamed(one, other).mapping)

    def test_errors(self):
        filtered = Query(EDGE, ((0, (0, 1)),), ((0, (0, 1)),), (0,))
        other = Query(Schema(3, (2,)), ((0, (0, 1)),), (), (0,))
        more = graph((0, 1), shown=(0, 1))
        for call in (judge_renamed, same_counts, Renamed((0, 1)).shows, Apart(frozen(STEP)).shows):
            for place in (0, 1):
                self.assert_refused(call, (STEP, STEP), place, odd_except(Query), BadQuery, part=None)
                self.assert_refused(call, (STEP, STEP), place, [filtered], BadQuery, part="filters")
                self.assert_refused(call, (STEP, STEP), place, [other, more], Unlike)
            for first, second, part in ((None, filtered, None), (filtered, None, "filters"), (more, filtered, "filters")):
                self.assert_fault(call, (first, second), BadQuery, {"part": part})


class Shows(Case):

    def test_renamed_for_all_tuples(self):
        chance = chance_of(53)
        right = 0
        for turn in range(60):
            one, other = draw_pair(chance, 3)
            if turn % 2:
                other = renamed(chance, one)
            for many in range(5):
                for mapping in product(range(-1, 4), repeat=many):
                    wanted = oracle.is_renaming(mapping, one, other)
                    self.assertIs(wanted, Renamed(mapping).shows(one, other))
                    right += wanted
        self.assertTrue(right > 25)

    def test_other_forms(self):
        one, other = graph((0, 1), (1, 2), shown=(2,)), graph((2, 0), (1, 2), shown=(0,))
        self.assertIs(Renamed([1, 2, 0]).shows(one, other), True)
        for mapping in ((), (1, 2), (1, 2, 0, 0), (1, 2, 3), (0, 1, 2), (1, 1, 0), (1, 2, -3), (True, 2, 0)):
            self.assertIs(Renamed(mapping).shows(one, other), False)

    def test_a_mapping_that_misses_a_variable_or_an_atom(self):
        self.assertIs(Renamed((0, 1, 1)).shows(FORK, STEP), False)
        self.assertIs(Renamed((0, 1)).shows(STEP, FORK), False)
        self.assertIs(Renamed((0, 1)).shows(STEP, graph((0, 1), (1, 0))), False)
        self.assertIs(Renamed((0, 1)).shows(graph((0, 1), (1, 0)), STEP), False)

    def test_apart(self):
        for size in range(2, 7):
            schema = Schema(size, (2,))
            for counts, wanted in (([2] + [0] * (size ** 2 - 1), True), ([1] + [0] * (size ** 2 - 1), False)):
                self.assertIs(wanted, Apart(Data(schema, [counts])).shows(STEP, FORK))
                self.assertIs(wanted, Apart(Data(schema, [counts])).shows(FORK, STEP))

    def test_apart_against_answers(self):
        chance = chance_of(54)
        right = 0
        for _ in range(200):
            one, other = draw_pair(chance, 3)
            size = chance.randint(2, 4)
            data = draw_data(chance, Schema(size, one.schema.widths), 1)
            here, there = [oracle.answer(oracle.read_for(query, size), data) for query in (one, other)]
            self.assertIs(here != there, Apart(data).shows(one, other))
            right += here != there
        self.assertTrue(20 < right < 200)

    def test_data_of_other_widths(self):
        for data in (Data(Schema(2, (1,)), ((2, 0),)), Data(Schema(2, (2, 1)), ((2, 0, 0, 0), (0, 0))), DATA):
            self.assertIs(Apart(data).shows(STEP, FORK), False)

    def test_attributes_assigned_anew(self):
        told = judge_renamed(WAY, graph((1, 2), (2, 0), shown=(1,)))
        other = graph((1, 2), (2, 0), shown=(1,))
        self.assertIs(told.shows(WAY, other), True)
        told.mapping = [0, 1, 2]
        self.assertIs(told.shows(WAY, other), False)
        told.mapping = [1, 2, 0]
        self.assertIs(told.shows(WAY, other), True)
        told = Apart(Data(EDGE, ((1, 0, 0, 1),)))
        self.assertIs(told.shows(STEP, FORK), False)
        told.data = Data(EDGE, ((2, 0, 0, 0),))
        self.assertIs(told.shows(STEP, FORK), True)

    def test_attributes_and_results_are_new(self):
        mapping = [0, 1]
        told = Renamed(mapping)
        mapping.pop()
        self.assertEqual((0, 1), told.mapping)
        judge_renamed(STEP, STEP).mapping = ()
        self.assertEqual((0, 1), judge_renamed(STEP, STEP).mapping)

    def test_equality(self):
        one, other = Renamed((0, 1)), Apart(frozen(STEP))
        self.assert_equality((one, Renamed([0, 1])), (Renamed((1, 0)), Renamed(()), other))
        self.assert_equality((other, Apart(Data(EDGE, ((0, 1, 0, 0),)))), (Apart(frozen(WAY)), one))
