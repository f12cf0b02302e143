"""[5] Notes and [6] agreeing tables."""

from itertools import product

from surelyplan import statistics
from surelyplan.errors import BadData, BadNotes, BadSchema, BadTable, TooLarge, Unlike
from surelyplan.schemas import Data, Schema
from surelyplan.statistics import Against, Agrees, Crossed, Statistics
from surelyplan.statistics import agree, all_tables, broken_notes, count_tables, has_tables, judge_table
from tests import oracle
from tests.checks import DATA, SCHEMA, STATS, AlwaysEqual, Case, Fault, odd_except
from tests.random_cases import any_schema, chance_of, draw_data, draw_odd_stats, draw_stats

TWO, THREE = Schema(2, (2, 1)), Schema(3, (2, 1))
SUMS = [("value", 0, column, value, 5, 5) for column in (0, 1) for value in range(3)]


class Notes(Case):

    def test_each_kind_of_note(self):
        good = (
            ("rows", 0, 2, 5), ("value", 0, 1, 2, 0, 3), ("value", 0, 0, 0, 0, 3), ("cell", 0, (1, 2), 1, 1),
            ("rows", 1, 0, 0), ("value", 1, 0, 2, 4, 4), ("cell", 1, (2,), 0, 9),
        )
        stats = Statistics(THREE, list(good))
        self.assertEqual((good, THREE, 7), (stats.notes, stats.schema, len(stats)))
        self.assertEqual(tuple, stats.notes.__class__)
        self.assertEqual(good, Statistics(THREE, good).notes)

    def test_bounds_up_to_9_times_the_square_of_the_number_of_values(self):
        for schema, most in ((TWO, 36), (THREE, 81)):
            for table in (0, 1):
                for quantity in oracle.quantities(schema, table):
                    for low, high in ((0, 0), (0, most), (most, most), (most, 0), (3, 2)):
                        note = oracle.note_about(quantity, table, low, high)
                        self.assertEqual((note,), Statistics(schema, [note]).notes)
                    for low, high in ((0, most + 1), (most + 1, most), (-1, 3), (3, -1), (True, 3), (0, False), (None, 3)):
                        note = oracle.note_about(quantity, table, low, high)
                        self.assert_fault(Statistics, (schema, [note]), BadNotes, {"index": 0})

    def test_wrong_notes(self):
        wrong = (
            ["rows", 0, 2, 5], ("rows", 0, 2), ("rows", 0, 2, 5, 6), ("rows", 2, 2, 5), ("rows", -1, 2, 5), (),
            ("rows", True, 2, 5), ("row", 0, 2, 5), ("", 0, 2, 5), (None, 0, 2, 5), (0, 0, 2, 5), (("rows",), 0, 2, 5),
            ("value", 0, 2, 0, 0, 3), ("value", 1, 1, 0, 0, 3), ("value", 0, 0, 2, 0, 3), ("value", 0, -1, 0, 0, 3),
            ("value", 0, 0, -1, 0, 3), ("value", 0, True, 0, 0, 3), ("value", 0, 0, True, 0, 3), ("value", 0, 0, 0, 3),
            ("value", 0, 0, 0, 0, 0, 3), ("value", 2, 0, 0, 0, 3), ("value", 0, (0,), 0, 0, 3), ("cell", 0, (0,), 0, 3),
            ("cell", 0, (0, 2), 0, 3), ("cell", 0, (0, -1), 0, 3), ("cell", 0, (0, True), 0, 3), ("cell", 0, [0, 0], 0, 3),
            ("cell", 1, (0, 0), 0, 3), ("cell", 1, 0, 0, 3), ("cell", 1, (2,), 0, 3), ("cell", 0, 0, 0, 0, 3),
            ("cell", 0, (0, 0), 3), ("cell", 0, (0, 0, 0), 0, 3), ("cell", 2, (0, 0), 0, 3), ("rows", [0], 2, 5),
            ("rows", 0, "2", 5), ("rows", 0, 2, None), ("rows", 0, (2, 5)), ("rows", None, 2, 5), "rows", {}, None, 7, True,
        )
        for note in wrong:
            self.assert_fault(Statistics, (TWO, [note]), BadNotes, {"index": 0})
            self.assert_fault(Statistics, (TWO, (("rows", 0, 2, 5), note, None)), BadNotes, {"index": 1})
        for note in odd_except():
            self.assert_fault(Statistics, (TWO, [note]), BadNotes, {"index": 0})
        for note in ((AlwaysEqual(), 0, 2, 5), (AlwaysEqual(), 0, (0, 0), 2, 5), (AlwaysEqual(), 0, 0, 0, 2, 5)):
            self.assert_fault(Statistics, (TWO, [note]), BadNotes, {"index": 0})

    def test_first_wrong_note(self):
        note = ("rows", 0, 2, 5)
        for first in range(16):
            notes = [note] * 16
            notes[first] = ("rows", 0, 2, 99)
            self.assert_fault(Statistics, (TWO, notes), BadNotes, {"index": first})
            notes[15] = None
            self.assert_fault(Statistics, (TWO, notes), BadNotes, {"index": first})

    def test_sixteen_and_seventeen(self):
        note = ("rows", 0, 2, 5)
        self.assertEqual(16, len(Statistics(TWO, [note] * 16)))
        for many in (17, 18, 1000):
            self.assert_fault(Statistics, (TWO, [note] * many), BadNotes, {"index": None})
            self.assert_fault(Statistics, (TWO, [None] + [note] * many), BadNotes, {"index": None})

    def test_no_list_or_tuple(self):
        self.assert_refused(Statistics, (TWO, []), 1, odd_except(list, tuple), BadNotes, index=None)
        self.assertEqual(((), 0), (Statistics(TWO, []).notes, len(Statistics(TWO, ()))))

    def test_schemas(self):
        for size in (2, 3):
            self.assertEqual(size, Statistics(Schema(size, (1,)), []).schema.size)
        for size in (4, 5, 6):
            self.assert_fault(Statistics, (Schema(size, (1,)), []), BadSchema)
        self.assert_refused(Statistics, (TWO, []), 0, odd_except(Schema), BadSchema)
        self.assert_fault(Statistics, (None, None), BadSchema)
        self.assert_fault(Statistics, (Schema(4, (1,)), None), BadSchema)

    def test_arguments_are_neither_kept_nor_modified(self):
        notes = [("rows", 0, 2, 5), ("rows", 1, 0, 1)]
        stats = Statistics(TWO, notes)
        self.assertEqual([("rows", 0, 2, 5), ("rows", 1, 0, 1)], notes)
        notes.pop()
        notes[0] = ("rows", 0, 0, 0)
        self.assertEqual((("rows", 0, 2, 5), ("rows", 1, 0, 1)), stats.notes)

    def test_equality(self):
        notes = [("rows", 0, 2, 5), ("rows", 1, 0, 1)]
        different = (
            Statistics(TWO, notes[:1]), Statistics(TWO, notes[::-1]), Statistics(Schema(2, (1, 1)), notes),
            Statistics(TWO, []), Statistics(TWO, [("rows", 0, 2, 5), ("rows", 1, 0, 2)]),
        )
        self.assert_equality((Statistics(TWO, notes), Statistics(TWO, tuple(notes))), different)

    def test_broken_notes(self):
        chance = chance_of(4)
        broken = 0
        for _ in range(300):
            schema = any_schema(chance, most_size=3)
            stats, data = draw_stats(chance, schema, chance.randint(0, 16), 30), draw_data(chance, schema)
            wanted = [
                index for index, note in enumerate(stats.notes)
                if not oracle.note_holds(schema, note, data.tables[note[1]])
            ]
            broken += bool(wanted)
            self.assertEqual(wanted, broken_notes(stats, data))
            self.assertIs(wanted == [], agree(stats, data))
        self.assertTrue(50 < broken < 300)

    def test_bounds_belong_to_them(self):
        for low, high, wanted in ((3, 3, []), (0, 2, [0]), (4, 9, [0]), (0, 3, []), (3, 9, []), (5, 1, [0])):
            stats = Statistics(TWO, [("rows", 0, low, high)])
            self.assertEqual(wanted, broken_notes(stats, DATA))

    def test_broken_notes_are_new(self):
        data = Data(TWO, ((0, 0, 0, 0), (0, 0)))
        self.assert_new_each_time(lambda: broken_notes(STATS, data), lambda indices: indices.clear())

    def test_errors_of_agreeing(self):
        other = Data(Schema(3, (2, 1)), ((0,) * 9, (0,) * 3))
        for call in (broken_notes, agree):
            self.assert_refused(call, (STATS, DATA), 0, odd_except(Statistics), BadNotes, index=None)
            self.assert_refused(call, (STATS, DATA), 1, odd_except(Data), BadData, table=None)
            self.assert_fault(call, (None, None), BadNotes, {"index": None})
            self.assert_fault(call, (STATS, other), Unlike)


class Judging(Case):

    def check(self, stats, table, tables=None):
        """What is told of a table is right; returns the name of its class."""
        found = oracle.agreeing(stats, table, tables)
        crossed = oracle.crossed_quantities(stats, table)
        told = judge_table(stats, table)
        self.assertIs(told.shows(stats, table), True)
        self.assertIs(crossed != [], isinstance(told, Crossed))
        self.assertIs(found != [], isinstance(told, Agrees))
        if isinstance(told, Agrees):
            self.assertIn(told.counts, found)
        elif isinstance(told, Crossed):
            self.assertIn(told.quantity, crossed)
        else:
            self.assertEqual((Against, tuple), (told.__class__, told.nodes.__class__))
            self.assertTrue(set(told.nodes) <= set(oracle.nodes(stats.schema, table)))
            self.assertTrue(oracle.are_against(stats, table, told.nodes))
        return told.__class__.__name__

    def check_many(self, schema, turns, seed, most):
        chance = chance_of(seed)
        kinds = {}
        for turn in range(turns):
            stats = draw_stats(chance, schema, chance.randint(0, 8), chance.randint(0, 3), most)
            if turn % 3 == 0:
                stats = draw_odd_stats(chance, schema, chance.randrange(len(schema)), most)
            for table in range(len(schema)):
                kind = self.check(stats, table)
                kinds[kind] = kinds.get(kind, 0) + 1
        self.assertEqual(["Against", "Agrees", "Crossed"], sorted(kinds), kinds)
        self.assertTrue(min(kinds.values()) > 5, kinds)

    def test_two_columns_of_two_values(self):
        self.check_many(Schema(2, (2,)), 150, 5, 9)
        self.check_many(Schema(2, (2,)), 100, 6, 2)

    def test_one_column(self):
        self.check_many(Schema(2, (1, 1)), 150, 7, 9)
        self.check_many(Schema(3, (1, 1)), 150, 8, 9)

    def test_two_columns_of_three_values(self):
        # Notes about all cells leave so few tables that they can be listed.
        chance = chance_of(9)
        schema, kinds = Schema(3, (2,)), {}
        for _ in range(120):
            small = [chance.randint(0, 8) for _ in range(9)]
            notes = [("cell", 0, cell, low, low + 1) for cell, low in zip(oracle.cells(schema, 0), small)]
            for _ in range(chance.randint(1, 6)):
                quantity = chance.choice(oracle.quantities(schema, 0)[:7])
                value = oracle.quantity_value(schema, 0, quantity, small) + chance.randint(0, 4)
                spread = chance.randint(0, 1)
                notes.append(oracle.note_about(quantity, 0, value - min(spread, value), value + spread))
            tables = product(*[(low, low + 1) for low in small])
            kind = self.check(Statistics(schema, notes), 0, tables)
            kinds[kind] = kinds.get(kind, 0) + 1
        self.assertTrue(kinds["Against"] > 10 and kinds["Agrees"] > 10, kinds)

    def test_crossed_exactly_if_bounds_cross(self):
        for table, schema in ((0, TWO), (1, TWO), (0, THREE), (1, THREE)):
            for quantity in oracle.quantities(schema, table):
                most = 9 * len(oracle.cells_of(schema, table, quantity))
                crossing = [oracle.note_about(quantity, table, low, high) for low, high in ((4, 9), (0, 3))]
                self.assertEqual("Crossed", self.judge(schema, crossing, table))
                self.assertEqual("Crossed", self.judge(schema, [oracle.note_about(quantity, table, 4, 3)], table))
                if most < 9 * schema.size ** 2:
                    above = [oracle.note_about(quantity, table, most + 1, most + 1)]
                    self.assertEqual("Crossed", self.judge(schema, above, table))
                self.assertEqual("Agrees", self.judge(schema, [oracle.note_about(quantity, table, most, most)], table))
                touching = [oracle.note_about(quantity, table, low, high) for low, high in ((4, 9), (0, 4))]
                self.assertEqual("Agrees", self.judge(schema, touching, table))

    def judge(self, schema, notes, table):
        stats = Statistics(schema, notes)
        told = judge_table(stats, table)
        self.assertTrue(told.shows(stats, table))
        self.assertIs(isinstance(told, Agrees), has_tables(stats))
        return told.__class__.__name__

    def test_two_quantities_about_the_same_cells(self):
        one = Schema(3, (1,))
        notes = [("value", 0, 0, 1, 5, 9), ("cell", 0, (1,), 0, 4)]
        stats = Statistics(one, notes)
        told = judge_table(stats, 0)
        self.assertIsInstance(told, Crossed)
        self.assertIn(told.quantity, (("value", 0, 1), ("cell", (1,))))
        for quantity in (("value", 0, 1), ("cell", (1,))):
            self.assertTrue(Crossed(quantity).shows(stats, 0))
        self.assertFalse(Crossed(("value", 0, 0)).shows(stats, 0))
        # With two columns, a value and a cell are about other cells.
        wide = Statistics(Schema(3, (2,)), [("value", 0, 0, 1, 5, 9), ("cell", 0, (1, 1), 0, 4)])
        self.assertIsInstance(judge_table(wide, 0), Agrees)

    def test_notes_about_other_tables_do_not_count(self):
        stats = Statistics(Schema(2, (1, 1)), [("rows", 0, 5, 4)])
        self.assertIsInstance(judge_table(stats, 0), Crossed)
        self.assertIsInstance(judge_table(stats, 1), Agrees)
        self.assertFalse(has_tables(stats))

    def test_has_tables(self):
        chance = chance_of(10)
        seen = []
        for _ in range(120):
            stats = draw_stats(chance, Schema(2, (1, 1, 1)), chance.randint(0, 12), chance.randint(0, 3))
            wanted = all(oracle.agreeing(stats, table) for table in range(3))
            self.assertIs(wanted, has_tables(stats))
            seen.append(wanted)
        self.assertTrue(10 < sum(seen) < 110)

    def test_very_many_tables(self):
        schema = Schema(3, (2, 2, 2, 2))
        for notes in ([], [("rows", 0, 40, 41)], [("value", 0, 0, 0, 27, 27), ("rows", 0, 3, 27)]):
            stats = Statistics(schema, notes)
            self.assertTrue(has_tables(stats))
            self.assertTrue(judge_table(stats, 0).shows(stats, 0))
        stats = Statistics(schema, [("rows", 3, 80, 81), ("value", 3, 1, 2, 0, 25)])
        self.assertFalse(has_tables(stats))
        self.assertIsInstance(judge_table(stats, 3), Against)
        self.assertTrue(judge_table(stats, 3).shows(stats, 3))

    def test_errors(self):
        for call in (judge_table, all_tables, count_tables):
            self.assert_refused(call, (STATS, 0), 0, odd_except(Statistics), BadNotes, index=None)
            self.assert_refused(call, (STATS, 0), 1, [2, -1] + odd_except(), BadTable)
            self.assert_fault(call, (None, None), BadNotes, {"index": None})
        self.assert_refused(has_tables, (STATS,), 0, odd_except(Statistics), BadNotes, index=None)


class Shows(Case):

    def test_agrees(self):
        wanted = oracle.agreeing(STATS, 0)
        self.assertEqual([(0, 2, 1, 0), (1, 1, 0, 1)], wanted)
        for counts in product(range(4), repeat=4):
            self.assertIs(counts in wanted, Agrees(counts).shows(STATS, 0))
            self.assertIs(counts in wanted, Agrees(list(counts)).shows(STATS, 0))

    def test_agrees_of_another_form(self):
        free = Statistics(TWO, [])
        for counts in ((), (0,), (0, 0, 0), (0, 0, 0, 0, 0), (0, 0, 0, 10), (0, 0, 0, -1), (True, 0, 0, 0)):
            self.assertIs(Agrees(counts).shows(free, 0), False)
        self.assertIs(Agrees((0, 0, 0, 9)).shows(free, 0), True)
        self.assertIs(Agrees((0, 9)).shows(free, 1), True)
        self.assertIs(Agrees((0, 9)).shows(free, 0), False)

    def test_crossed(self):
        stats = Statistics(TWO, [("cell", 0, (0, 1), 3, 2), ("value", 1, 0, 1, 1, 0), ("rows", 0, 1, 5)])
        for table in (0, 1):
            wanted = oracle.crossed_quantities(stats, table)
            self.assertEqual((1, 2)[table], len(wanted))
            for quantity in oracle.quantities(THREE, 0) + oracle.quantities(THREE, 1) + [(), ("rows", 0), ("", 0)]:
                self.assertIs(quantity in wanted, Crossed(quantity).shows(stats, table))

    def test_against(self):
        chance = chance_of(11)
        schemas = (Schema(2, (2,)), Schema(3, (1,)), Schema(2, (1,)))
        right = wrong = 0
        for turn in range(45):
            stats = draw_stats(chance, schemas[turn % 3], chance.randint(3, 8), 0)
            for some in oracle.every_group(oracle.nodes(stats.schema, 0)):
                wanted = oracle.are_against(stats, 0, some)
                self.assertIs(wanted, Against(some).shows(stats, 0))
                self.assertIs(wanted, Against(list(some)[::-1]).shows(stats, 0))
                right, wrong = right + wanted, wrong + (not wanted)
        self.assertTrue(right > 50 and wrong > 50)

    def test_against_of_other_nodes(self):
        stats = Statistics(TWO, [("value", 0, 0, 0, 5, 9), ("rows", 0, 0, 3)])
        good = (("first", 0), ("first", 1), ("second", 0), ("second", 1), ("end", 0))
        self.assertIs(Against(good).shows(stats, 0), True)
        for node in (("first", 2), ("second", -1), ("top", 1), ("end", 1), ("cell", 0), ("", 0)):
            self.assertIs(Against(good + (node,)).shows(stats, 0), False)
        self.assertIs(Against((("first", False),) + good[1:]).shows(stats, 0), False)
        self.assertIs(Against(good).shows(stats, 1), False)
        self.assertIs(Against(()).shows(stats, 0), False)

    def test_attributes_assigned_anew(self):
        told = Agrees((0, 1, 1, 1))
        self.assertIs(told.shows(STATS, 0), False)
        told.counts = [1, 1, 0, 1]
        self.assertIs(told.shows(STATS, 0), True)
        told.counts = (1, 1, 1, 0)
        self.assertIs(told.shows(STATS, 0), False)
        stats = Statistics(TWO, [("rows", 0, 3, 2)])
        told = Crossed(("rows",))
        self.assertIs(told.shows(stats, 0), True)
        told.quantity = ("cell", (0, 0))
        self.assertIs(told.shows(stats, 0), False)
        stats = Statistics(TWO, [("value", 0, 0, 0, 5, 9), ("rows", 0, 0, 3)])
        told = Against([("first", 0)])
        self.assertIs(told.shows(stats, 0), False)
        told.nodes = [("first", 0), ("first", 1), ("second", 0), ("second", 1), ("end", 0)]
        self.assertIs(told.shows(stats, 0), True)

    def test_attributes_are_copies_and_tuples(self):
        counts, nodes = [1, 1, 0, 1], [("top", 0)]
        told, against = Agrees(counts), Against(nodes)
        counts[0] = 5
        nodes.pop()
        self.assertEqual(((1, 1, 0, 1), (("top", 0),)), (told.counts, against.nodes))
        self.assertEqual(("rows",), Crossed(("rows",)).quantity)

    def test_results_are_new(self):
        first = judge_table(STATS, 0)
        first.counts = (9, 9, 9, 9)
        self.assertTrue(judge_table(STATS, 0).shows(STATS, 0))

    def test_equality(self):
        agrees, crossed, against = Agrees((1, 2)), Crossed(("rows",)), Against((("top", 0),))
        self.assert_equality((agrees, Agrees([1, 2])), (Agrees((1, 3)), Agrees(()), crossed, against))
        self.assert_equality((crossed, Crossed(("rows",))), (Crossed(("value", 0, 0)), agrees, against))
        self.assert_equality((against, Against([("top", 0)])), (Against((("end", 0),)), Against(()), agrees, crossed))
        self.assert_equality((Agrees(()), Agrees([])), (Against(()), Crossed(())))

    def test_errors(self):
        for told in (Agrees((1, 1, 0, 1)), Crossed(("rows",)), Against(())):
            self.assert_refused(told.shows, (STATS, 0), 0, odd_except(Statistics), BadNotes, index=None)
            self.assert_refused(told.shows, (STATS, 0), 1, [2, -1] + odd_except(), BadTable)
            self.assert_error_order(told.shows, (STATS, 0), [
                Fault(BadNotes, {0: None}, index=None), Fault(BadTable, {1: 2}),
            ])


class Listing(Case):

    def test_all_tables_of_two_values(self):
        chance = chance_of(12)
        many = []
        for turn in range(80):
            stats = draw_stats(chance, Schema(2, (2,)), chance.randint(2, 7), chance.randint(0, 3), (3, 9)[turn % 2])
            many.append(self.check(stats, 0))
        self.assertTrue(many.count(0) > 5 and max(many) > 500, many)

    def test_all_tables_of_one_column(self):
        chance = chance_of(13)
        for turn in range(80):
            stats = draw_stats(chance, Schema(2 + turn % 2, (1, 1)), chance.randint(0, 5), 2)
            self.check(stats, turn % 2)

    def check(self, stats, table):
        wanted = oracle.agreeing(stats, table)
        if len(wanted) > 3000:
            self.assert_fault(all_tables, (stats, table), TooLarge)
            self.assert_fault(count_tables, (stats, table), TooLarge)
        else:
            told = all_tables(stats, table)
            self.assertEqual(wanted, told)
            self.assertEqual(len(wanted), count_tables(stats, table))
            self.assertTrue(all(counts.__class__ == tuple for counts in told))
        return len(wanted)

    def test_all_tables_of_three_values(self):
        # There are 35 + 70 + 126 tables of 3 by 3 counts with the sum 5 in each row and column.
        self.assertEqual(231, count_tables(Statistics(THREE, SUMS), 0))
        for counts in all_tables(Statistics(THREE, SUMS), 0):
            self.assertEqual([5] * 6, [sum(counts[0:3]), sum(counts[3:6]), sum(counts[6:9])] + [
                sum(counts[0::3]), sum(counts[1::3]), sum(counts[2::3])])
        self.assertEqual(715, count_tables(Statistics(THREE, [("rows", 0, 0, 4)]), 0))

    def test_just_within_the_limit_and_just_beyond(self):
        within = [("cell", 0, (0, 0), 7, 9)]
        self.assertEqual(3000, len(all_tables(Statistics(TWO, within), 0)))
        self.assertEqual(3000, count_tables(Statistics(TWO, within), 0))
        beyond = [("value", 0, 0, 0, 4, 10), ("value", 0, 0, 1, 1, 17), ("value", 0, 1, 1, 8, 18)]
        stats = Statistics(TWO, beyond)
        self.assertEqual(3001, len(oracle.agreeing(stats, 0)))
        self.assert_fault(all_tables, (stats, 0), TooLarge)
        self.assert_fault(count_tables, (stats, 0), TooLarge)

    def test_very_many_tables(self):
        schema = Schema(3, (2, 1))
        for notes in ([], [("rows", 0, 40, 40)], [("value", 0, 0, 0, 27, 27)], [("rows", 0, 0, 6)]):
            stats = Statistics(schema, notes)
            self.assert_fault(all_tables, (stats, 0), TooLarge)
            self.assert_fault(count_tables, (stats, 0), TooLarge)
            self.assertEqual(1000, count_tables(stats, 1))

    def test_no_table(self):
        for notes in ([("rows", 0, 3, 2)], [("value", 0, 0, 0, 5, 9), ("rows", 0, 0, 3)]):
            self.assertEqual([[], 0], [all_tables(Statistics(TWO, notes), 0), count_tables(Statistics(TWO, notes), 0)])

    def test_list_is_new(self):
        self.assert_new_each_time(lambda: all_tables(STATS, 0), lambda tables: tables.clear())

    def test_limit_is_the_one_of_the_document(self):
        self.assertEqual(3000, statistics.MOST_LISTED)
