"""[11] Within."""

from itertools import product

from surelyplan.errors import BadQuery, Unlike
from surelyplan.queries import Query
from surelyplan.schemas import Data, Schema
from surelyplan.within import Beyond, Leanest, Within
from surelyplan.within import fewest_atoms, frozen, is_within, judge_within, leanest, leanest_query, show_same
from tests import oracle
from tests.checks import DATA, QUERY, SCHEMA, Case, Fault, odd_except
from tests.random_cases import any_schema, chance_of, draw_data, draw_query

EDGE = Schema(2, (2,))


def graph(*pairs, shown=(0,), schema=EDGE):
    """A query of atoms of the first table."""
    return Query(schema, tuple((0, pair) for pair in pairs), (), shown)


STEP, WAY, FORK, LOOP = graph((0, 1)), graph((0, 1), (1, 2)), graph((0, 1), (0, 2)), graph((0, 0))


def draw_pair(chance, most_variables=4):
    """Two queries that can be compared."""
    schema = any_schema(chance, most_tables=2)
    one = draw_query(chance, schema, most_variables=most_variables, filtered=False)
    other = draw_query(chance, schema, most_variables=most_variables, filtered=False, shown=len(one.shown))
    if len(other.shown) < len(one.shown):
        one = Query(schema, one.atoms, (), one.shown[:len(other.shown)])
    return one, other


class WithinAndBeyond(Case):

    def check(self, one, other):
        mappings = oracle.mappings_within(one, other)
        told = judge_within(one, other)
        self.assertIs(told.shows(one, other), True)
        self.assertIs(is_within(one, other), mappings != [])
        if mappings:
            self.assertIsInstance(told, Within)
            self.assertEqual(tuple, told.mapping.__class__)
            self.assertIn(told.mapping, mappings)
        else:
            self.assertIsInstance(told, Beyond)
            size = told.data.schema.size
            here = oracle.answer(oracle.read_for(one, size), told.data)
            there = oracle.answer(oracle.read_for(other, size), told.data)
            self.assertEqual(one.schema.widths, told.data.schema.widths)
            self.assertTrue(set(here) - set(there))
        return mappings != []

    def test_against_all_mappings(self):
        chance = chance_of(40)
        seen = []
        for _ in range(250):
            one, other = draw_pair(chance)
            both = self.check(one, other), self.check(other, one)
            self.assertIs(both == (True, True), show_same(one, other))
            self.assertIs(both == (True, True), show_same(other, one))
            seen.append(both)
        for both in product((True, False), repeat=2):
            self.assertTrue(seen.count(both) > 5, both)

    def test_the_same_table_several_times(self):
        chance = chance_of(41)
        for _ in range(80):
            one = draw_query(chance, EDGE, most_variables=5, filtered=False, shown=1)
            other = draw_query(chance, EDGE, most_variables=5, filtered=False, shown=1)
            self.check(one, other)
            self.check(other, one)

    def test_within_means_within_on_all_data(self):
        chance = chance_of(42)
        for _ in range(60):
            one, other = draw_pair(chance, 3)
            if is_within(one, other):
                size = chance.randint(2, 4)
                data = draw_data(chance, Schema(size, one.schema.widths), 1)
                here = oracle.answer(oracle.read_for(one, size), data)
                there = oracle.answer(oracle.read_for(other, size), data)
                self.assertEqual(set(), set(here) - set(there))

    def test_known_queries(self):
        self.assertEqual([True, False], [is_within(WAY, STEP), is_within(STEP, WAY)])
        self.assertEqual([True, False], [is_within(LOOP, STEP), is_within(STEP, LOOP)])
        self.assertEqual([True, True, False], [show_same(STEP, FORK), show_same(WAY, WAY), show_same(WAY, FORK)])
        self.assertEqual([True, False], [is_within(LOOP, WAY), is_within(WAY, LOOP)])
        two, three = graph((0, 1), (1, 0), shown=()), graph((0, 1), (1, 2), (2, 0), shown=())
        self.assertEqual([False, False], [is_within(two, three), is_within(three, two)])

    def test_no_shown_variables(self):
        one, other = graph((0, 1), (1, 2), shown=()), graph((0, 1), shown=())
        self.assertEqual([True, False], [is_within(one, other), is_within(other, one)])
        fork = graph((0, 1), (0, 2), shown=())
        self.assertIs(show_same(fork, other), True)

    def test_the_same_shown_variables_in_another_order(self):
        one, other = graph((0, 1), shown=(0, 1)), graph((0, 1), shown=(1, 0))
        self.assertEqual([False, False], [is_within(one, other), is_within(other, one)])
        self.assertIs(judge_within(one, other).shows(one, other), True)
        both = graph((0, 1), (1, 0), shown=(0, 1)), graph((0, 1), (1, 0), shown=(1, 0))
        self.assertIs(show_same(*both), True)

    def test_other_tables(self):
        schema = Schema(2, (1, 1))
        one, other = Query(schema, ((0, (0,)),), (), ()), Query(schema, ((1, (0,)),), (), ())
        self.assertEqual([False, False], [is_within(one, other), is_within(other, one)])
        both = Query(schema, ((0, (0,)), (1, (1,))), (), ())
        self.assertEqual([True, True], [is_within(both, one), is_within(both, other)])

    def test_six_variables(self):
        one = graph((0, 1), (2, 3), (4, 5), (1, 2), shown=(0, 5))
        other = graph((0, 1), (2, 3), (4, 5), shown=(0, 5))
        self.assertEqual([True, False], [is_within(one, other), is_within(other, one)])
        told = judge_within(other, one)
        self.assertIs(told.shows(other, one), True)
        self.assertEqual(6, told.data.schema.size)

    def test_errors(self):
        filtered = Query(EDGE, ((0, (0, 1)),), ((0, (0, 1)),), (0,))
        other = Query(Schema(3, (2,)), ((0, (0, 1)),), (), (0,))
        more = graph((0, 1), shown=(0, 1))
        calls = [judge_within, is_within, show_same, Within((0, 1)).shows, Beyond(frozen(STEP)).shows]
        for call in calls:
            for place in (0, 1):
                self.assert_refused(call, (STEP, STEP), place, odd_except(Query), BadQuery, part=None)
                self.assert_refused(call, (STEP, STEP), place, [filtered], BadQuery, part="filters")
                self.assert_refused(call, (STEP, STEP), place, [other, more], Unlike)
            for first, second, part in (
                (None, filtered, None), (filtered, None, "filters"), (filtered, filtered, "filters"), (None, None, None),
                (filtered, other, "filters"), (more, filtered, "filters"), (other, None, None),
            ):
                self.assert_fault(call, (first, second), BadQuery, {"part": part})

    def test_errors_that_all_raise(self):
        filtered = Query(EDGE, ((0, (0, 1)),), ((0, (0, 1)),), (0,))
        for call in (frozen, leanest, leanest_query, fewest_atoms, Leanest((0,), (0, 1)).shows):
            self.assert_refused(call, (STEP,), 0, odd_except(Query), BadQuery, part=None)
            self.assert_refused(call, (STEP,), 0, [filtered], BadQuery, part="filters")


class Frozen(Case):

    def test_against_the_document(self):
        chance = chance_of(43)
        for _ in range(100):
            query = draw_query(chance, any_schema(chance), most_variables=6, filtered=False)
            told = frozen(query)
            self.assertEqual(oracle.frozen(query), told)
            self.assertEqual(len(query), sum(sum(counts) for counts in told.tables))

    def test_one_variable(self):
        self.assertEqual(Data(EDGE, ((1, 0, 0, 0),)), frozen(graph((0, 0), schema=Schema(5, (2,)))))
        single = Query(Schema(6, (1, 1)), ((0, (0,)),), (), ())
        self.assertEqual(Data(Schema(2, (1, 1)), ((1, 0), (0, 0))), frozen(single))

    def test_number_of_values(self):
        for many in range(2, 7):
            atoms = tuple((0, (variable, variable + 1)) for variable in range(0, many - 1, 2))
            atoms += ((0, (many - 2, many - 1)),) * (many % 2)
            told = frozen(Query(EDGE, atoms, (), ()))
            self.assertEqual((many, (2,)), (told.schema.size, told.schema.widths))


class Shows(Case):

    def test_within_for_all_tuples(self):
        chance = chance_of(44)
        right = 0
        for _ in range(40):
            one, other = draw_pair(chance, 3)
            for mapping in product(range(-1, 4), repeat=oracle.variables(other)):
                wanted = oracle.is_mapping(mapping, one, other)
                self.assertIs(wanted, Within(mapping).shows(one, other))
                self.assertIs(wanted, Within(list(mapping)).shows(one, other))
                right += wanted
            self.assertIs(Within((0,) * (oracle.variables(other) + 1)).shows(one, other), False)
            self.assertIs(Within((0,) * (oracle.variables(other) - 1)).shows(one, other), False)
        self.assertTrue(right > 20)

    def test_mapping_of_another_length(self):
        self.assertIs(Within((0, 1)).shows(WAY, STEP), True)
        for mapping in ((), (0,), (0, 1, 2), (0, 2), (1, 2), (0, 1, 1), (0, -2), (0, 3), (False, 1)):
            self.assertIs(Within(mapping).shows(WAY, STEP), False)

    def test_beyond(self):
        for size in range(2, 7):
            schema = Schema(size, (2,))
            counts = [0] * size ** 2
            counts[size - 1] = 9
            self.assertIs(Beyond(Data(schema, [counts])).shows(STEP, WAY), True)
            self.assertIs(Beyond(Data(schema, [counts])).shows(WAY, STEP), False)
            self.assertIs(Beyond(Data(schema, [[0] * size ** 2])).shows(STEP, WAY), False)
            self.assertIs(Beyond(Data(schema, [[1] * size ** 2])).shows(STEP, WAY), False)

    def test_beyond_against_answers(self):
        chance = chance_of(45)
        right = 0
        for _ in range(150):
            one, other = draw_pair(chance, 3)
            size = chance.randint(2, 4)
            data = draw_data(chance, Schema(size, one.schema.widths), 1)
            here = oracle.answer(oracle.read_for(one, size), data)
            there = oracle.answer(oracle.read_for(other, size), data)
            wanted = not set(here) <= set(there)
            self.assertIs(wanted, Beyond(data).shows(one, other))
            right += wanted
        self.assertTrue(right > 20)

    def test_counts_do_not_matter(self):
        data = Data(EDGE, ((9, 9, 0, 0),))
        twice = graph((0, 1), (0, 2))
        self.assertIs(Beyond(data).shows(STEP, twice), False)
        self.assertIs(Beyond(data).shows(twice, STEP), False)

    def test_data_of_other_widths(self):
        for data in (Data(Schema(2, (1,)), ((1, 0),)), Data(Schema(2, (2, 1)), ((0, 1, 0, 0), (0, 0))), DATA):
            self.assertIs(Beyond(data).shows(STEP, WAY), False)

    def test_attributes_assigned_anew(self):
        told = Within([0, 2])
        self.assertIs(told.shows(WAY, STEP), False)
        told.mapping = [0, 1]
        self.assertIs(told.shows(WAY, STEP), True)
        told.mapping = (1, 2)
        self.assertIs(told.shows(WAY, STEP), False)
        told = Beyond(frozen(WAY))
        self.assertIs(told.shows(STEP, WAY), True)
        told.data = Data(EDGE, ((1, 1, 1, 1),))
        self.assertIs(told.shows(STEP, WAY), False)
        told.data = frozen(STEP)
        self.assertIs(told.shows(STEP, WAY), True)

    def test_attributes_are_copies_and_tuples(self):
        mapping, kept = [0, 1], [0]
        told, lean = Within(mapping), Leanest(kept, mapping)
        mapping.pop()
        kept.pop()
        self.assertEqual([(0, 1), (0,), (0, 1)], [told.mapping, lean.kept, lean.mapping])

    def test_results_are_new(self):
        judge_within(WAY, STEP).mapping = ()
        self.assertTrue(judge_within(WAY, STEP).shows(WAY, STEP))
        judge_within(STEP, WAY).data = None
        self.assertTrue(judge_within(STEP, WAY).shows(STEP, WAY))
        leanest(FORK).kept = ()
        self.assertTrue(leanest(FORK).shows(FORK))

    def test_equality(self):
        within, beyond, lean = Within((0, 1)), Beyond(frozen(STEP)), Leanest((0,), (0, 1))
        self.assert_equality((within, Within([0, 1])), (Within((0,)), Within((1, 0)), beyond, lean))
        self.assert_equality((beyond, Beyond(Data(EDGE, ((0, 1, 0, 0),)))), (Beyond(frozen(WAY)), within, lean))
        different = (Leanest((1,), (0, 1)), Leanest((0,), (0, 0)), within, beyond)
        self.assert_equality((lean, Leanest([0], [0, 1])), different)


class FewestAtoms(Case):

    def fewest(self, query):
        """The least number of atoms that show the same, by mappings of the whole queries."""
        for group in sorted(oracle.every_group(range(len(query))), key=len):
            atoms = [query.atoms[index] for index in group]
            used = sorted({variable for _, inner in atoms for variable in inner})
            if group and set(query.shown) <= set(used):
                numbers = {old: new for new, old in enumerate(used)}
                renamed = tuple((table, oracle.image(numbers, inner)) for table, inner in atoms)
                less = Query(query.schema, renamed, (), oracle.image(numbers, query.shown))
                if oracle.mappings_within(query, less) and oracle.mappings_within(less, query):
                    return len(group)
        return None

    def draw(self, chance):
        schema = any_schema(chance, most_tables=2)
        return draw_query(chance, schema, most_variables=4, filtered=False, shown=chance.randint(0, 2))

    def test_against_all_sets_of_atoms(self):
        chance = chance_of(46)
        seen = []
        for _ in range(150):
            query = self.draw(chance)
            fewest = self.fewest(query)
            self.assertEqual(fewest, fewest_atoms(query))
            told = leanest(query)
            self.assertEqual(fewest, len(told.kept))
            self.assertIn(told.mapping, oracle.kept_mappings(query, told.kept))
            self.assertIs(told.shows(query), True)
            lean = leanest_query(query)
            self.assertEqual(fewest, len(lean))
            self.assertIs(show_same(query, lean), True)
            seen.append(len(query) - fewest)
        for fewer in (0, 1, 2):
            self.assertTrue(seen.count(fewer) > 5, seen)

    def test_shows_for_all_groups_and_mappings(self):
        chance = chance_of(47)
        right = 0
        for _ in range(40):
            query = draw_query(chance, EDGE, 3, 3, False, chance.randint(0, 1))
            fewest = self.fewest(query)
            for kept in oracle.every_group(range(len(query))):
                good = oracle.kept_mappings(query, kept) if len(kept) == fewest else []
                for mapping in product(range(-1, 4), repeat=oracle.variables(query)):
                    self.assertIs(mapping in good, Leanest(kept, mapping).shows(query))
                right += len(good)
        self.assertTrue(right > 40)

    def test_too_many_atoms_kept(self):
        self.assertIs(Leanest((0,), (0, 1, 1)).shows(FORK), True)
        self.assertIs(Leanest([1], [0, 2, 2]).shows(FORK), True)
        self.assertIs(Leanest((0, 1), (0, 1, 2)).shows(FORK), False)
        self.assertIs(Leanest((0, 1), (0, 1, 1)).shows(FORK), False)

    def test_a_mapping_that_moves_a_shown_variable(self):
        query = graph((0, 1), (2, 1), shown=(0, 2))
        self.assertEqual(2, fewest_atoms(query))
        self.assertIs(Leanest((0, 1), (0, 1, 2)).shows(query), True)
        self.assertIs(Leanest((0,), (0, 1, 0)).shows(query), False)
        self.assertIs(Leanest((0, 1), (2, 1, 0)).shows(query), False)
        hidden = graph((0, 1), (2, 1), shown=(0,))
        self.assertIs(Leanest((0,), (0, 1, 0)).shows(hidden), True)
        self.assertIs(Leanest((1,), (2, 1, 2)).shows(hidden), False)

    def test_other_forms(self):
        wrong = (
            ((), (0, 1, 1)), ((0,), (0, 1)), ((0,), (0, 1, 1, 1)), ((0,), (0, 1, 2)), ((0,), (0, 2, 2)), ((2,), (0, 1, 1)),
            ((-1,), (0, 2, 2)), ((0, 0), (0, 1, 1)), ((0,), (0, 1, 3)), ((0,), (0, 1, -2)), ((1, 0), (0, 1, 2)),
            ((False,), (0, 1, 1)), ((0,), (False, 1, 1)),
        )
        for kept, mapping in wrong:
            self.assertIs(Leanest(kept, mapping).shows(FORK), False, (kept, mapping))
        self.assertIs(Leanest((0, 1), (0, 1, 2)).shows(WAY), True)
        self.assertIs(Leanest((1, 0), (0, 1, 2)).shows(WAY), False)

    def test_attributes_assigned_anew(self):
        told = leanest(FORK)
        told.kept, told.mapping = [0, 1], [0, 1, 2]
        self.assertIs(told.shows(FORK), False)
        told.kept, told.mapping = [1], [0, 2, 2]
        self.assertIs(told.shows(FORK), True)
        told.mapping = (0, 1, 1)
        self.assertIs(told.shows(FORK), False)

    def test_variables_are_numbered_anew(self):
        # Only the atom with 1 and 3 shows the same, with these variables as 0 and 1.
        query = graph((1, 3), (1, 2), (0, 3), (0, 2), shown=(3, 1))
        self.assertEqual((1, graph((0, 1), shown=(1, 0))), (fewest_atoms(query), leanest_query(query)))
        schema = Schema(2, (1, 2))
        query = Query(schema, ((1, (0, 1)), (0, (2,)), (1, (3, 2)), (1, (4, 1))), (), (4, 2))
        lean = Query(schema, ((0, (1,)), (1, (2, 1)), (1, (3, 0))), (), (3, 1))
        self.assertEqual((3, lean), (fewest_atoms(query), leanest_query(query)))

    def test_the_whole_query(self):
        for query in (STEP, WAY, LOOP, graph((0, 1), (1, 2), (2, 0), shown=())):
            self.assertEqual((len(query), query), (fewest_atoms(query), leanest_query(query)))
            self.assertEqual(tuple(range(len(query))), leanest(query).kept)

    def test_a_query_of_another_number_of_values(self):
        self.assertEqual(SCHEMA, leanest_query(QUERY).schema)
        wide = Schema(6, (2,))
        self.assertEqual(graph((0, 1), schema=wide), leanest_query(graph((0, 1), (0, 2), schema=wide)))

    def test_order_of_errors(self):
        self.assert_error_order(judge_within, (STEP, STEP), [
            Fault(BadQuery, {0: None}, part=None), Fault(BadQuery, {1: DATA}, part=None),
        ])
