"""[9] Sizes and [10] covers."""

from itertools import product

from surelyplan.errors import BadNotes, BadQuery, Disagrees, TooLarge, Unlike
from surelyplan.queries import Query, answer_size
from surelyplan.schemas import Data, Schema
from surelyplan.sizes import Covered, SizeEnds, cover, cover_bound, reach_sizes, size_ends
from surelyplan.statistics import Statistics, agree
from tests import oracle
from tests.checks import DATA, QUERY, SCHEMA, STATS, Case, Fault, odd_except
from tests.random_cases import chance_of, draw_query
from tests.test_weighing import draw_agreeing

NARROW = Statistics(SCHEMA, STATS.notes + (("cell", 1, (0,), 1, 1), ("cell", 1, (1,), 0, 2)))
NONE = Statistics(SCHEMA, [("rows", 1, 3, 2)])
FEW = Query(SCHEMA, QUERY.atoms, ((0, (0,)),), ())
LOW, HIGH = Data(SCHEMA, ((0, 2, 1, 0), (1, 0))), Data(SCHEMA, ((0, 2, 1, 0), (1, 2)))


def sizes_of_all(stats, query):
    """The sizes of the answer on all agreeing data, or None if there are more than 3000 combinations."""
    used = sorted({table for table, _ in query.atoms})
    choices = [oracle.agreeing(stats, table) for table in used]
    many = 1
    for choice in choices:
        many *= len(choice)
    if many > 3000:
        return None
    zero = [(0,) * len(oracle.cells(stats.schema, table)) for table in range(len(stats.schema))]
    found = []
    for chosen in product(*choices):
        tables = list(zero)
        for table, counts in zip(used, chosen):
            tables[table] = counts
        found.append(oracle.size(query, Data(stats.schema, tables)))
    return found


class Sizes(Case):

    def check(self, stats, query):
        wanted = sizes_of_all(stats, query)
        if wanted is None:
            for call in (size_ends, reach_sizes, SizeEnds(DATA, DATA).shows):
                self.assert_fault(call, (stats, query), TooLarge)
            return None
        self.assertEqual((min(wanted), max(wanted)), size_ends(stats, query))
        told = reach_sizes(stats, query)
        self.assertIs(told.shows(stats, query), True)
        for data, size in ((told.least, min(wanted)), (told.greatest, max(wanted))):
            self.assertEqual((stats.schema, True), (data.schema, agree(stats, data)))
            self.assertEqual(size, answer_size(query, data))
        return len(set(wanted))

    def test_against_all_agreeing_data(self):
        chance = chance_of(30)
        seen = []
        for turn in range(150):
            schema = (Schema(2, (2, 1)), Schema(3, (1, 1)), Schema(2, (1, 1, 2)))[turn % 3]
            stats, _ = draw_agreeing(chance, schema, chance.randint(5, 12), chance.randint(0, 1), 3)
            seen.append(self.check(stats, draw_query(chance, schema)))
        self.assertTrue(seen.count(None) > 3, seen)
        self.assertTrue(len([many for many in seen if many is not None and many > 5]) > 10, seen)

    def test_the_same_table_in_several_atoms(self):
        chance = chance_of(31)
        schema = Schema(2, (2,))
        for atoms in (
            ((0, (0, 1)), (0, (1, 2))), ((0, (0, 1)), (0, (1, 0))), ((0, (0, 0)), (0, (0, 1)), (0, (2, 1))),
            ((0, (0, 1)), (0, (1, 2)), (0, (2, 3)), (0, (3, 0))), ((0, (0, 0)), (0, (1, 1)), (0, (0, 1)), (0, (1, 0))),
        ):
            for _ in range(4):
                stats, _ = draw_agreeing(chance, schema, 6, 1, 3)
                self.assertIsNotNone(self.check(stats, Query(schema, atoms, (), ())))

    def test_one_table_twice_is_chosen_once(self):
        schema = Schema(2, (1,))
        stats = Statistics(schema, [("rows", 0, 3, 3)])
        query = Query(schema, ((0, (0,)), (0, (1,))), ((0, (0,)), (1, (1,))), ())
        self.assertEqual((0, 2), size_ends(stats, query))

    def test_tables_that_the_query_does_not_use(self):
        schema = Schema(3, (1, 2, 2, 1))
        stats = Statistics(schema, [("cell", 0, (value,), 1, 4) for value in range(3)] + [("rows", 2, 80, 81)])
        query = Query(schema, ((0, (0,)),), ((0, (0, 2)),), (0,))
        self.assertEqual((2, 8), size_ends(stats, query))
        told = reach_sizes(stats, query)
        self.assertIs(told.shows(stats, query), True)
        self.assertIs(agree(stats, told.least) and agree(stats, told.greatest), True)

    def test_filters(self):
        self.assertEqual((0, 4), size_ends(NARROW, FEW))
        nothing = Query(SCHEMA, QUERY.atoms, ((0, ()),), (0,))
        self.assertEqual((0, 0), size_ends(NARROW, nothing))
        self.assertIs(reach_sizes(NARROW, nothing).shows(NARROW, nothing), True)

    def test_just_within_the_limit_and_just_beyond(self):
        schema = Schema(2, (1, 1, 1, 2))
        atoms = ((0, (0,)), (1, (0,)), (2, (0,)))
        query = Query(schema, atoms, (), ())
        # 3 times 10, 10 times 10 and 1 tables are 3000 combinations.
        within = Statistics(schema, [("cell", 0, (0,), 0, 2), ("rows", 2, 18, 18)])
        self.assertEqual((0, 2 * 81 + 9 * 81), size_ends(within, query))
        self.assertIs(reach_sizes(within, query).shows(within, query), True)
        # 19, 79 and 2 tables are 3002 combinations.
        notes = [("rows", 0, 8, 9), ("rows", 1, 0, 12), ("cell", 2, (0,), 0, 1), ("cell", 2, (1,), 0, 0)]
        beyond = Statistics(schema, notes)
        self.assertEqual([19, 79, 2], [len(oracle.agreeing(beyond, table)) for table in (0, 1, 2)])
        for call in (size_ends, reach_sizes, SizeEnds(LOW, LOW).shows):
            self.assert_fault(call, (beyond, query), TooLarge)
        # Without the third table, or the second one, there are few combinations; the table in no atom has 10000.
        self.assertEqual((0, 81), size_ends(beyond, Query(schema, atoms[:2], (), ())))
        self.assertEqual((0, 9), size_ends(beyond, Query(schema, atoms[::2], (), ())))

    def test_limit_of_one_table(self):
        schema = Schema(2, (2, 2))
        query = Query(schema, ((0, (0, 1)),), (), ())
        self.assertEqual((7, 36), size_ends(Statistics(schema, [("cell", 0, (0, 0), 7, 9)]), query))
        beyond = Statistics(schema, [("value", 0, 0, 0, 4, 10), ("value", 0, 0, 1, 1, 17), ("value", 0, 1, 1, 8, 18)])
        for call in (size_ends, reach_sizes, SizeEnds(DATA, DATA).shows):
            self.assert_fault(call, (beyond, query), TooLarge)

    def test_four_atoms_of_one_table_with_3000_tables(self):
        schema = Schema(3, (2,))
        notes = [("cell", 0, cell, 1, 1) for cell in oracle.cells(schema, 0)[4:]] + [("cell", 0, (0, 0), 1, 3)]
        stats = Statistics(schema, notes)
        query = Query(schema, ((0, (0, 1)), (0, (2, 3)), (0, (4, 5)), (0, (0, 5))), (), ())
        low, high = [
            Data(schema, [[first, other, other, other, 1, 1, 1, 1, 1]]) for first, other in ((1, 0), (3, 9))
        ]
        self.assertEqual((oracle.size(query, low), oracle.size(query, high)), size_ends(stats, query))
        self.assertIs(reach_sizes(stats, query).shows(stats, query), True)

    def test_errors(self):
        other = Query(Schema(2, (2,)), ((0, (0, 1)),), (), ())
        many = Statistics(SCHEMA, [])
        for call in (size_ends, reach_sizes, SizeEnds(LOW, HIGH).shows):
            self.assert_refused(call, (NARROW, QUERY), 0, odd_except(Statistics), BadNotes, index=None)
            self.assert_refused(call, (NARROW, QUERY), 1, odd_except(Query), BadQuery, part=None)
            self.assert_error_order(call, (NARROW, QUERY), [
                Fault(BadNotes, {0: None}, index=None), Fault(BadQuery, {1: None}, part=None),
            ])
            self.assert_error_order(call, (NARROW, QUERY), [Fault(Unlike, {1: other})])
            self.assert_fault(call, (NONE, None), BadQuery, {"part": None})
            self.assert_fault(call, (NONE, other), Unlike)
            self.assert_fault(call, (NONE, QUERY), Disagrees, {"index": 1})
            self.assert_fault(call, (many, QUERY), TooLarge)
            free = Statistics(SCHEMA, [("rows", 1, 1, 0)])
            self.assert_fault(call, (free, Query(SCHEMA, ((0, (0, 1)),), (), ())), Disagrees, {"index": 1})


class ShowsEnds(Case):

    def test_right_and_wrong(self):
        for least, greatest, wanted in (
            (LOW, HIGH, True), (HIGH, HIGH, False), (LOW, LOW, False), (HIGH, LOW, False),
        ):
            self.assertIs(wanted, SizeEnds(least, greatest).shows(NARROW, FEW))

    def test_data_that_do_not_agree(self):
        # The same sizes, but one row too many in the other column.
        wrong = Data(SCHEMA, ((0, 2, 2, 0), (1, 0)))
        self.assertEqual(answer_size(FEW, LOW), answer_size(FEW, wrong))
        self.assertIs(SizeEnds(wrong, HIGH).shows(NARROW, FEW), False)
        wrong = Data(SCHEMA, ((0, 2, 2, 0), (1, 2)))
        self.assertEqual(answer_size(FEW, HIGH), answer_size(FEW, wrong))
        self.assertIs(SizeEnds(LOW, wrong).shows(NARROW, FEW), False)

    def test_data_of_another_schema(self):
        for other in (Data(Schema(2, (2,)), ((0, 2, 1, 0),)), Data(Schema(3, (2, 1)), ((0,) * 9, (0,) * 3))):
            self.assertIs(SizeEnds(other, HIGH).shows(NARROW, FEW), False)
            self.assertIs(SizeEnds(LOW, other).shows(NARROW, FEW), False)

    def test_every_agreeing_data_at_an_end(self):
        right = 0
        for first in oracle.agreeing(NARROW, 0):
            for second in oracle.agreeing(NARROW, 1):
                data = Data(SCHEMA, (first, second))
                size = oracle.size(FEW, data)
                self.assertIs(size == 0, SizeEnds(data, HIGH).shows(NARROW, FEW))
                self.assertIs(size == 4, SizeEnds(LOW, data).shows(NARROW, FEW))
                right += size in (0, 4)
        self.assertTrue(right > 1)

    def test_attributes_assigned_anew(self):
        told = SizeEnds(HIGH, HIGH)
        self.assertIs(told.shows(NARROW, FEW), False)
        told.least = LOW
        self.assertIs(told.shows(NARROW, FEW), True)
        told.greatest = LOW
        self.assertIs(told.shows(NARROW, FEW), False)

    def test_results_are_new(self):
        first = reach_sizes(NARROW, FEW)
        first.least, first.greatest = first.greatest, first.least
        self.assertTrue(reach_sizes(NARROW, FEW).shows(NARROW, FEW))
        self.assertFalse(first == reach_sizes(NARROW, FEW))

    def test_equality(self):
        same = SizeEnds(Data(SCHEMA, LOW.tables), Data(SCHEMA, HIGH.tables))
        self.assert_equality((SizeEnds(LOW, HIGH), same), (SizeEnds(LOW, LOW), SizeEnds(HIGH, HIGH), Covered((0,))))


class Covers(Case):

    def bound(self, stats, query, group):
        """The bound of a cover, from the ends of sums over listed tables."""
        bound = 1
        for place, (table, _) in enumerate(query.atoms):
            tables = oracle.agreeing(stats, table)
            rows, cells = max(sum(counts) for counts in tables), max(max(counts) for counts in tables)
            bound *= rows if place in group else cells
        return bound

    def test_against_all_sets_of_atoms(self):
        chance = chance_of(32)
        many = []
        for turn in range(100):
            schema = (Schema(2, (2, 1)), Schema(3, (1, 1)), Schema(2, (1, 1, 2)))[turn % 3]
            stats, data = draw_agreeing(chance, schema, chance.randint(0, 12), chance.randint(0, 4), chance.choice((1, 9)))
            query = draw_query(chance, schema, most_variables=chance.randint(1, 6))
            bounds = {group: self.bound(stats, query, group) for group in oracle.covers(query)}
            least = min(bounds.values())
            self.assertEqual(least, cover_bound(stats, query))
            told = cover(stats, query)
            self.assertEqual(least, bounds[told.atoms])
            for group in oracle.every_group(range(len(query))):
                self.assertIs(bounds.get(group) == least, Covered(group).shows(stats, query))
            self.assertTrue(oracle.size(query, data) <= least)
            many.append(len(bounds))
        self.assertTrue(max(many) > 5)

    def test_atoms_out_of_order_or_twice(self):
        query = Query(SCHEMA, ((1, (0,)), (1, (1,)), (0, (2, 2))), (), ())
        stats = Statistics(SCHEMA, [])
        self.assertIs(Covered((0, 1, 2)).shows(stats, query), True)
        self.assertIs(Covered([0, 1, 2]).shows(stats, query), True)
        wrong = (
            (0, 2, 1), (2, 1, 0), (1, 0, 2), (0, 0, 1, 2), (0, 1, 2, 2), (0, 1), (), (0, 1, 2, 3), (-1, 0, 1, 2), (0, 1, -1),
            (0, 1, 3), (0, 1, True),
        )
        for atoms in wrong:
            self.assertIs(Covered(atoms).shows(stats, query), False)

    def test_a_filter_does_not_change_a_cover(self):
        chance = chance_of(33)
        for _ in range(20):
            stats, _ = draw_agreeing(chance, SCHEMA, 6, 2)
            query = draw_query(chance, SCHEMA)
            plain = Query(SCHEMA, query.atoms, (), query.shown)
            none = Query(SCHEMA, query.atoms, ((0, ()),), ())
            self.assertEqual(cover_bound(stats, plain), cover_bound(stats, query))
            self.assertEqual(cover_bound(stats, plain), cover_bound(stats, none))
            self.assertIs(cover(stats, plain).shows(stats, none), True)

    def test_bounds_of_0(self):
        stats = Statistics(SCHEMA, [("rows", 1, 0, 0)])
        self.assertEqual(0, cover_bound(stats, QUERY))
        self.assertEqual([True, True, False], [Covered(atoms).shows(stats, QUERY) for atoms in ((0,), (0, 1), (1,))])

    def test_very_many_tables(self):
        schema = Schema(3, (2, 2, 2, 2))
        stats = Statistics(schema, [("rows", 0, 0, 12), ("cell", 3, (0, 0), 1, 9)])
        query = Query(schema, ((0, (0, 1)), (1, (1, 2)), (2, (2, 3)), (3, (3, 0))), (), ())
        self.assertEqual(12 * 9 * 81 * 9, cover_bound(stats, query))
        self.assertEqual((0, 2), cover(stats, query).atoms)
        for call in (size_ends, reach_sizes):
            self.assert_fault(call, (stats, query), TooLarge)

    def test_attributes(self):
        atoms = [0, 1]
        told = Covered(atoms)
        atoms.pop()
        self.assertEqual((0, 1), told.atoms)
        self.assertIs(told.shows(NARROW, QUERY), False)
        told.atoms = [0]
        self.assertIs(told.shows(NARROW, QUERY), True)
        told.atoms = (1,)
        self.assertIs(told.shows(NARROW, QUERY), False)
        first = cover(NARROW, QUERY)
        first.atoms = ()
        self.assertTrue(cover(NARROW, QUERY).shows(NARROW, QUERY))

    def test_equality(self):
        self.assert_equality((Covered([0, 1]), Covered((0, 1))), (Covered((0,)), Covered((1, 0)), SizeEnds(LOW, HIGH)))

    def test_errors(self):
        other = Query(Schema(2, (2,)), ((0, (0, 1)),), (), ())
        for call in (cover, cover_bound, Covered((0,)).shows):
            self.assert_refused(call, (NARROW, QUERY), 0, odd_except(Statistics), BadNotes, index=None)
            self.assert_refused(call, (NARROW, QUERY), 1, odd_except(Query), BadQuery, part=None)
            self.assert_error_order(call, (NARROW, QUERY), [
                Fault(BadNotes, {0: None}, index=None), Fault(BadQuery, {1: None}, part=None),
            ])
            self.assert_fault(call, (NONE, other), Unlike)
            self.assert_fault(call, (NARROW, other), Unlike)
            self.assert_fault(call, (NONE, QUERY), Disagrees, {"index": 1})
