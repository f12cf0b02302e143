"""[18] Blocks."""

from itertools import groupby, product

from surelyplan.blocks import FirstTorn, SurelyFirst
from surelyplan.blocks import block_ends, blocks_to_read, judge_first, rows_from_blocks, run_count, stored_blocks, zones
from surelyplan.errors import BadData, BadMemory, BadNotes, BadNumber, BadQuery, BadTable, Disagrees, TooLarge, Unlike
from surelyplan.queries import Query
from surelyplan.schemas import Data, Schema
from surelyplan.statistics import Statistics
from tests import oracle, slow
from tests.checks import DATA, QUERY, SCHEMA, STATS, Case, Fault, odd_except
from tests.random_cases import any_schema, chance_of, draw_data, draw_query
from tests.test_questions import nine_cells
from tests.test_weighing import draw_agreeing

PAIRS = Schema(2, (2,))
ONCE = Query(PAIRS, ((0, (0, 1)),), ((1, (1,)),), ())
TWICE = Query(PAIRS, ((0, (0, 0)),), (), ())
OTHER = Data(Schema(2, (1, 2)), ((1, 1), (1, 1, 1, 1)))
OTHER_QUERY = Query(Schema(2, (1, 2)), ((0, (0,)),), (), ())
NONE = Statistics(SCHEMA, [("rows", 1, 3, 2)])
NARROW = Statistics(SCHEMA, STATS.notes + (("cell", 1, (0,), 1, 1), ("cell", 1, (1,), 0, 2)))


def sorted_rows(data, table, first):
    """The rows of a table, each one as its cell, sorted by a column and then by the other one."""
    return sorted(slow.table_rows(data, table), key=lambda cell: (cell[first], cell))


def cut(rows, block):
    return [rows[at:at + block] for at in range(0, len(rows), block)]


def zone(cells):
    return tuple((min(values), max(values)) for values in zip(*cells))


def must_read(query, index, cells):
    """Whether the zone of a block leaves room for an atom."""
    pairs = list(zip(query.atoms[index][1], zone(cells)))
    for variable in {variable for variable, _ in pairs}:
        own = [pair for name, pair in pairs if name == variable]
        values = oracle.allowed(query, variable)
        if not all(any(low <= value <= high for value in values) for low, high in own):
            return False
        if not any(all(low <= value <= high for low, high in own) for value in values):
            return False
    return True


def read_by_hand(query, data, index, first, block):
    blocks = cut(sorted_rows(data, query.atoms[index][0], first), block)
    return [at for at, cells in enumerate(blocks) if must_read(query, index, cells)]


def draw_case(chance, most=9):
    schema = any_schema(chance)
    query = draw_query(chance, schema)
    index = chance.randrange(len(query))
    return query, draw_data(chance, schema, most), index, chance.randrange(schema.widths[query.atoms[index][0]]), chance.randint(1, 8)


def data_of(stats, table, counts):
    """Agreeing data with a table."""
    tables = [oracle.agreeing(stats, other)[0] if other != table else counts for other in range(len(stats.schema))]
    return Data(stats.schema, tables)


class Stored(Case):

    def test_against_sorted_rows(self):
        chance = chance_of(180)
        for _ in range(200):
            schema = any_schema(chance)
            data = draw_data(chance, schema, chance.choice((1, 3, 9)))
            table, block = chance.randrange(len(schema)), chance.randint(1, 8)
            for first in range(schema.widths[table]):
                rows = sorted_rows(data, table, first)
                self.assertEqual(cut(rows, block), stored_blocks(data, table, first, block))
                self.assertEqual([zone(cells) for cells in cut(rows, block)], zones(data, table, first, block))
                wanted = tuple(len(list(groupby(cell[column] for cell in rows))) for column in range(schema.widths[table]))
                self.assertEqual(wanted, run_count(data, table, first))

    def test_some_blocks(self):
        data = Data(Schema(2, (2, 1)), ((2, 1, 1, 1), (3, 0)))
        self.assertEqual([[(0, 0), (0, 0)], [(0, 1), (1, 0)], [(1, 1)]], stored_blocks(data, 0, 0, 2))
        self.assertEqual([[(0, 0), (0, 0)], [(1, 0), (0, 1)], [(1, 1)]], stored_blocks(data, 0, 1, 2))
        self.assertEqual([((0, 0), (0, 0)), ((0, 1), (0, 1)), ((1, 1), (1, 1))], zones(data, 0, 0, 2))
        self.assertEqual([[(0, 0), (0, 0), (0, 1), (1, 0), (1, 1)]], stored_blocks(data, 0, 0, 5))
        self.assertEqual([((0, 1), (0, 1))], zones(data, 0, 1, 8))
        self.assertEqual([[(0,)], [(0,)], [(0,)]], stored_blocks(data, 1, 0, 1))
        self.assertEqual([((0, 0),), ((0, 0),)], zones(data, 1, 0, 2))
        self.assertEqual([(2, 4), (4, 2), (1,)], [run_count(data, 0, 0), run_count(data, 0, 1), run_count(data, 1, 0)])

    def test_empty_tables(self):
        data = Data(Schema(3, (2, 1)), ((0,) * 9, (0,) * 3))
        for block in (1, 8):
            self.assertEqual([[], [], []], [stored_blocks(data, 0, 0, block), stored_blocks(data, 0, 1, block), stored_blocks(data, 1, 0, block)])
            self.assertEqual([[], []], [zones(data, 0, 1, block), zones(data, 1, 0, block)])
        self.assertEqual([(0, 0), (0, 0), (0,)], [run_count(data, 0, 0), run_count(data, 0, 1), run_count(data, 1, 0)])
        query = Query(data.schema, ((0, (0, 0)), (1, (0,))), (), ())
        self.assertEqual([[], []], [blocks_to_read(query, data, 0, 1, 1), rows_from_blocks(query, data, 0, 1, 1)])

    def test_results_are_new(self):
        self.assert_new_each_time(lambda: stored_blocks(DATA, 0, 0, 2), lambda blocks: blocks[0].clear())
        self.assert_new_each_time(lambda: zones(DATA, 0, 0, 2), lambda told: told.clear())

    def test_errors(self):
        for call in (stored_blocks, zones):
            self.assert_error_order(call, (DATA, 1, 0, 2), [
                Fault(BadData, {0: None}, table=None), Fault(BadTable, {1: 2}), Fault(BadNumber, {2: 1}), Fault(BadMemory, {3: 0}),
            ])
            self.assert_refused(call, (DATA, 0, 1, 2), 3, odd_except() + [0, 9, -1], BadMemory)
        self.assert_error_order(run_count, (DATA, 1, 0), [Fault(BadData, {0: None}, table=None), Fault(BadTable, {1: 2}), Fault(BadNumber, {2: 1})])
        for call, more in ((stored_blocks, (2,)), (zones, (2,)), (run_count, ())):
            self.assert_refused(call, (DATA, 0, 1) + more, 0, odd_except(Data), BadData, table=None)
            self.assert_refused(call, (DATA, 0, 1) + more, 1, odd_except() + [2, -1], BadTable)
            self.assert_refused(call, (DATA, 0, 1) + more, 2, odd_except() + [2, -1], BadNumber)


class Reading(Case):

    def test_against_zones(self):
        chance = chance_of(181)
        skipped = 0
        for _ in range(500):
            query, data, index, first, block = draw_case(chance, chance.choice((1, 2, 9)))
            wanted = read_by_hand(query, data, index, first, block)
            self.assertEqual(wanted, blocks_to_read(query, data, index, first, block))
            table, variables = query.atoms[index]
            rows = [cell for cell in sorted_rows(data, table, first) if slow.fits(query, variables, cell, {}) is not None]
            self.assertEqual(rows, rows_from_blocks(query, data, index, first, block))
            skipped += 0 < len(wanted) < len(zones(data, table, first, block))
        self.assertTrue(skipped > 80)

    def test_filters(self):
        data = Data(PAIRS, ((2, 1, 1, 1),))
        self.assertEqual([[1, 2], [1, 2]], [blocks_to_read(ONCE, data, 0, first, 2) for first in (0, 1)])
        self.assertEqual([[(0, 1), (1, 1)], [(0, 1), (1, 1)]], [rows_from_blocks(ONCE, data, 0, first, 2) for first in (0, 1)])
        nothing = Query(PAIRS, ((0, (0, 1)),), ((0, ()),), ())
        self.assertEqual([[], []], [blocks_to_read(nothing, data, 0, 0, 2), rows_from_blocks(nothing, data, 0, 0, 2)])
        # A zone from 0 to 2 leaves room for 1, though no row has it.
        schema = Schema(3, (1,))
        middle = Query(schema, ((0, (0,)),), ((0, (1,)),), ())
        self.assertEqual([1], blocks_to_read(middle, Data(schema, ((3, 0, 2),)), 0, 0, 2))
        self.assertEqual([], rows_from_blocks(middle, Data(schema, ((3, 0, 2),)), 0, 0, 2))

    def test_a_variable_twice(self):
        data = Data(PAIRS, ((1, 2, 2, 1),))
        self.assertEqual([0, 5], blocks_to_read(TWICE, data, 0, 0, 1))
        self.assertEqual([0, 1, 2], blocks_to_read(TWICE, data, 0, 0, 2))
        self.assertEqual([(0, 0), (1, 1)], rows_from_blocks(TWICE, data, 0, 0, 2))
        # Allowed values lie within each pair, but no value within both.
        schema = Schema(4, (2,))
        both = Query(schema, ((0, (0, 0)),), ((0, (0, 3)),), ())
        counts = [0] * 16
        counts[3] = 2
        self.assertEqual([], blocks_to_read(both, Data(schema, (counts,)), 0, 0, 8))
        counts[4 * 2 + 1] = 1
        # Now the first values reach from 0 to 2 and the second ones from 1 to 3: no 0 and no 3 lies within both.
        self.assertEqual([], blocks_to_read(both, Data(schema, (counts,)), 0, 0, 8))
        counts[4 * 3] = 1
        self.assertEqual([0], blocks_to_read(both, Data(schema, (counts,)), 0, 0, 8))
        self.assertEqual([], rows_from_blocks(both, Data(schema, (counts,)), 0, 0, 8))

    def test_errors(self):
        for call in (blocks_to_read, rows_from_blocks):
            self.assert_error_order(call, (QUERY, DATA, 1, 0, 2), [
                Fault(BadQuery, {0: None}, part=None), Fault(BadData, {1: None}, table=None), Fault(Unlike, {1: OTHER}), Fault(BadNumber, {2: 2}),
                Fault(BadNumber, {3: 1}), Fault(BadMemory, {4: 9}),
            ])
            self.assert_refused(call, (QUERY, DATA, 0, 1, 2), 0, odd_except(Query), BadQuery, part=None)
            self.assert_refused(call, (QUERY, DATA, 0, 1, 2), 1, odd_except(Data), BadData, table=None)
            self.assert_refused(call, (QUERY, DATA, 0, 1, 2), 2, odd_except() + [2, -1], BadNumber)
            self.assert_refused(call, (QUERY, DATA, 0, 1, 2), 3, odd_except() + [2, -1], BadNumber)
            self.assert_refused(call, (QUERY, DATA, 0, 1, 2), 4, odd_except() + [0, 9], BadMemory)
            self.assert_new_each_time(lambda: call(QUERY, DATA, 0, 1, 2), lambda told: told.clear())


class FirstForSure(Case):

    def numbers(self, stats, query, index, block, tables=None):
        """For each agreeing table of an atom the numbers of blocks that must be read, for each column."""
        table, variables = query.atoms[index]
        found = {}
        for counts in oracle.agreeing(stats, table) if tables is None else tables:
            data = data_of(stats, table, counts)
            found[counts] = [len(read_by_hand(query, data, index, first, block)) for first in range(len(variables))]
        return found

    def check(self, stats, query, index, block, tables=None):
        numbers = self.numbers(stats, query, index, block, tables)
        for first in range(len(query.atoms[index][1])):
            told = [read[first] for read in numbers.values()]
            self.assertEqual((min(told), max(told)), block_ends(stats, query, index, first, block))
        judged = judge_first(stats, query, index, block)
        self.assertIs(judged.shows(stats, query, index, block), True)
        sure = [first for first in range(len(query.atoms[index][1])) if all(read[first] == min(read) for read in numbers.values())]
        for first in (-1, 0, 1, 2):
            self.assertIs(SurelyFirst(first).shows(stats, query, index, block), first in sure)
        if sure:
            self.assertIn(judged.first, sure)
            self.assertIs(FirstTorn([data_of(stats, query.atoms[index][0], counts) for counts in list(numbers)[:2]]).shows(
                stats, query, index, block), False)
            return True
        for first, data in enumerate(judged.against):
            read = numbers[data.tables[query.atoms[index][0]]]
            self.assertTrue(read[first] > read[1 - first])
            self.assertTrue(all(oracle.note_holds(stats.schema, note, data.tables[note[1]]) for note in stats.notes))
        return False

    def test_against_all_agreeing_data(self):
        chance = chance_of(182)
        told, done = [], 0
        while done < 90:
            schema = (PAIRS, Schema(3, (1, 1)), Schema(2, (2, 1)))[done % 3]
            stats, _ = draw_agreeing(chance, schema, chance.randint(3, 14), chance.randint(0, 4), chance.choice((2, 9)))
            query = draw_query(chance, schema, 2, 1 + done % 2 * 2)
            many = 1
            for table in {table for table, _ in query.atoms}:
                many *= len(oracle.agreeing(stats, table))
            if many <= 400:
                index = chance.randrange(len(query))
                told.append((self.check(stats, query, index, chance.randint(1, 3)), schema.widths[query.atoms[index][0]]))
                done += 1
        self.assertTrue(told.count((True, 2)) > 20 and told.count((False, 2)) > 2 and told.count((True, 1)) > 10)

    def test_three_values(self):
        chance = chance_of(183)
        told = []
        for _ in range(40):
            bounds = {at: (low, low + chance.randint(0, 2)) for at, low in ((at, chance.randint(0, 3)) for at in chance.sample(range(9), 4))}
            stats, tables = nine_cells(bounds)
            query = draw_query(chance, stats.schema, 1, chance.choice((1, 1, 2)))
            told.append(self.check(stats, query, 0, chance.randint(1, 5), tables))
        self.assertTrue(5 < sum(told) < 35)

    def test_width_one(self):
        query = Query(SCHEMA, ((1, (0,)),), ((0, (1,)),), ())
        stats = Statistics(SCHEMA, [("rows", 1, 3, 5)])
        self.assertEqual(SurelyFirst(0), judge_first(stats, query, 0, 2))
        self.assertEqual((0, 5), block_ends(stats, query, 0, 0, 1))
        self.assertIs(FirstTorn([Data(SCHEMA, ((0,) * 4, (3, 0)))]).shows(stats, query, 0, 2), False)
        self.assertIs(FirstTorn([]).shows(stats, query, 0, 2), False)

    def test_shows_of_first_torn(self):
        stats = Statistics(PAIRS, [("rows", 0, 0, 9), ("cell", 0, (1, 1), 0, 1), ("cell", 0, (0, 0), 0, 1)])
        query = Query(PAIRS, ((0, (0, 1)),), ((0, (1,)), (1, (0, 1))), ())
        torn_query = Query(PAIRS, ((0, (0, 1)),), ((0, (1,)),), ())
        self.assertEqual((query.atoms, SurelyFirst(0)), (torn_query.atoms, judge_first(stats, torn_query, 0, 1)))
        twice = Query(PAIRS, ((0, (0, 0)),), (), ())
        worse = {first: [] for first in (0, 1)}
        for counts, read in self.numbers(stats, twice, 0, 2).items():
            for first in (0, 1):
                if read[first] > read[1 - first]:
                    worse[first].append(Data(PAIRS, (counts,)))
        self.assertTrue(worse[0] and worse[1])
        right = [worse[0][0], worse[1][0]]
        self.assertIs(FirstTorn(right).shows(stats, twice, 0, 2), True)
        self.assertIs(FirstTorn(tuple(right)).shows(stats, twice, 0, 2), True)
        even = Data(PAIRS, ((0, 1, 1, 0),))
        beyond = Data(PAIRS, ((9, 9, 9, 9),))
        larger = Data(Schema(3, (2,)), ((0,) * 9,))
        for against in (
            right[::-1], right[:1], right + right[:1], [], [right[0], even], [even, right[1]], [right[0], beyond], [beyond, right[1]],
            [right[0], larger], [larger, right[1]], [right[0], DATA], [right[0], right[0]], [right[1], right[1]],
        ):
            self.assertIs(FirstTorn(against).shows(stats, twice, 0, 2), False)
        # Data that do not agree, or have another schema, are wrong even if the numbers of blocks are right.
        for counts in product(range(3), repeat=4):
            data = Data(PAIRS, (counts,))
            read = [len(read_by_hand(twice, data, 0, first, 2)) for first in (0, 1)]
            if read[0] != read[1]:
                place = 0 if read[0] > read[1] else 1
                against = list(right)
                against[place] = data
                agrees = all(oracle.note_holds(PAIRS, note, counts) for note in stats.notes)
                self.assertIs(FirstTorn(against).shows(stats, twice, 0, 2), agrees)
                against[place] = Data(Schema(2, (2, 1)), (counts, (0, 0)))
                self.assertIs(FirstTorn(against).shows(stats, twice, 0, 2), False)
                against[place] = Data(Schema(3, (2,)), (counts + (0,) * 5,))
                self.assertIs(FirstTorn(against).shows(stats, twice, 0, 2), False)
        told = FirstTorn(right)
        told.against = right[::-1]
        self.assertIs(told.shows(stats, twice, 0, 2), False)
        told.against.reverse()
        self.assertIs(told.shows(stats, twice, 0, 2), True)

    def test_shows_of_surely_first(self):
        stats = Statistics(PAIRS, [("rows", 0, 2, 2)])
        self.assertIsInstance(judge_first(stats, ONCE, 0, 1), SurelyFirst)
        for first, right in ((0, True), (1, True), (2, False), (-1, False), (True, False), (False, False)):
            self.assertIs(SurelyFirst(first).shows(stats, ONCE, 0, 1), right)
        told = SurelyFirst(0)
        told.first = True
        self.assertIs(told.shows(stats, ONCE, 0, 1), False)

    def test_limit(self):
        # 50 times 60 combinations, of the tables of both atoms.
        schema = Schema(2, (2, 1, 1))
        query = Query(schema, ((0, (0, 1)), (1, (0,))), (), ())
        notes = [("cell", 0, (0, 0), 0, 4), ("cell", 0, (0, 1), 0, 9), ("cell", 0, (1, 0), 2, 2), ("cell", 0, (1, 1), 1, 1), ("cell", 1, (0,), 0, 5)]
        just = Statistics(schema, notes)
        for index, first, wanted in ((0, 0, (3, 16)), (1, 0, (0, 14))):
            self.assertEqual(wanted, block_ends(just, query, index, first, 1))
            self.assertIs(judge_first(just, query, index, 2).shows(just, query, index, 2), True)
        self.assertEqual([50, 60], [len(oracle.agreeing(just, table)) for table in (0, 1)])
        free = Statistics(schema, notes[:4] + [("cell", 1, (0,), 0, 6)])
        for call, arguments in (
            (block_ends, (free, query, 0, 0, 1)), (block_ends, (free, query, 1, 0, 1)), (judge_first, (free, query, 1, 8)),
            (SurelyFirst(0).shows, (free, query, 0, 1)), (FirstTorn([]).shows, (free, query, 0, 1)), (judge_first, (Statistics(schema, []), query, 0, 1)),
        ):
            self.assert_fault(call, arguments, TooLarge)
        # Tables that the query does not use do not count.
        self.assertEqual((0, 2), block_ends(Statistics(schema, [("rows", 1, 0, 2)]), Query(schema, ((1, (0,)),), (), ()), 0, 0, 1))

    def test_just_beyond_the_limit(self):
        notes = [("value", 0, 0, 0, 4, 10), ("value", 0, 0, 1, 1, 17), ("value", 0, 1, 1, 8, 18)]
        just = Statistics(PAIRS, notes)
        self.assertEqual(3001, len(oracle.agreeing(just, 0)))
        self.assert_fault(judge_first, (just, ONCE, 0, 1), TooLarge)
        self.assert_fault(block_ends, (just, ONCE, 0, 1, 1), TooLarge)
        self.assertIs(judge_first(Statistics(PAIRS, notes + [("cell", 0, (0, 0), 1, 9)]), ONCE, 0, 3).shows(
            Statistics(PAIRS, notes + [("cell", 0, (0, 0), 1, 9)]), ONCE, 0, 3), True)

    def test_equality_and_copies(self):
        self.assert_equality((SurelyFirst(0), SurelyFirst(0)), [SurelyFirst(1), FirstTorn([])])
        told = [DATA, DATA]
        torn = FirstTorn(told)
        told.append(DATA)
        self.assertEqual([DATA, DATA], torn.against)
        self.assert_equality((torn, FirstTorn((DATA, DATA))), [FirstTorn([DATA]), FirstTorn([]), SurelyFirst(0)])

    def test_errors(self):
        faults = [
            Fault(BadNotes, {0: SCHEMA}, index=None), Fault(BadQuery, {1: None}, part=None), Fault(Unlike, {1: OTHER_QUERY}),
            Fault(Disagrees, {0: NONE}, index=1), Fault(BadNumber, {2: 2}),
        ]
        self.assert_error_order(block_ends, (NARROW, QUERY, 1, 0, 2), faults + [Fault(BadNumber, {3: 1}), Fault(BadMemory, {4: 0})])
        self.assert_error_order(block_ends, (NARROW, QUERY, 1, 0, 2), faults[1:3] + faults[4:] + [Fault(BadNumber, {3: 1}), Fault(BadMemory, {4: 0})])
        large = Statistics(SCHEMA, [])
        for call in (judge_first, SurelyFirst(0).shows, FirstTorn([]).shows):
            self.assert_error_order(call, (NARROW, QUERY, 1, 2), faults + [Fault(BadMemory, {3: 0})])
            self.assert_error_order(call, (NARROW, QUERY, 1, 2), faults[1:3] + faults[4:] + [Fault(BadMemory, {3: 0}), Fault(TooLarge, {0: large})])
            self.assert_refused(call, (NARROW, QUERY, 1, 2), 2, odd_except() + [2, -1], BadNumber)
            self.assert_refused(call, (NARROW, QUERY, 1, 2), 3, odd_except() + [0, 9], BadMemory)
        self.assert_error_order(block_ends, (NARROW, QUERY, 1, 0, 2), [
            Fault(BadNumber, {2: 2}), Fault(BadNumber, {3: 1}), Fault(BadMemory, {4: 0}), Fault(TooLarge, {0: large}),
        ])
        self.assert_refused(block_ends, (NARROW, QUERY, 1, 0, 2), 3, odd_except() + [1, -1], BadNumber)
        self.assert_refused(block_ends, (NARROW, QUERY, 1, 0, 2), 4, odd_except() + [0, 9], BadMemory)
