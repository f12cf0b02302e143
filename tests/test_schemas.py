"""[2] Schemas and data."""

from surelyplan.errors import BadCell, BadData, BadNumber, BadSchema, BadTable
from surelyplan.schemas import Data, Schema
from tests import oracle
from tests.checks import DATA, SCHEMA, Case, Fault, odd_except
from tests.random_cases import any_schema, chance_of, draw_data


class Schemas(Case):

    def test_sizes(self):
        for size in (2, 3, 4, 5, 6):
            self.assertEqual(size, Schema(size, (1,)).size)
        for size in (-2, 0, 1, 7, 8, 10 ** 30, True, False):
            self.assert_fault(Schema, (size, (1,)), BadSchema)

    def test_widths(self):
        for widths in ((1,), (2,), (1, 2), (2, 2, 2), (2, 1, 1, 2)):
            self.assertEqual(widths, Schema(3, widths).widths)
        wrong = ((), (0,), (3,), (1, 3), (1, 0, 1), (-1,), (1, 1, 1, 1, 1), (True,), (1, True), ("1",), (None,), ((1,),))
        for widths in wrong:
            self.assert_fault(Schema, (3, widths), BadSchema)

    def test_widths_are_a_tuple(self):
        for widths in ([1], [1, 2], {1: 1}, "1", range(1, 2), 1, None):
            self.assert_fault(Schema, (3, widths), BadSchema)

    def test_odd_arguments(self):
        self.assert_refused(Schema, (3, (1,)), 0, odd_except(), BadSchema)
        self.assert_refused(Schema, (3, (1,)), 1, odd_except(), BadSchema)

    def test_length_is_the_number_of_tables(self):
        self.assertEqual([1, 2, 4], [len(Schema(2, widths)) for widths in ((1,), (2, 1), (1, 1, 1, 1))])

    def test_cells(self):
        schema = Schema(3, (1, 2))
        self.assertEqual([(0,), (1,), (2,)], schema.cells(0))
        self.assertEqual([(a, b) for a in range(3) for b in range(3)], schema.cells(1))
        for size in range(2, 7):
            for table in (0, 1):
                schema = Schema(size, (2, 1))
                self.assertEqual(oracle.cells(schema, table), schema.cells(table))

    def test_cells_of_no_table(self):
        self.assert_refused(SCHEMA.cells, (0,), 0, [2, -1, True, False] + odd_except(), BadTable)

    def test_cells_are_new(self):
        self.assert_new_each_time(lambda: SCHEMA.cells(0), lambda cells: cells.pop())

    def test_equality(self):
        different = (Schema(3, (2, 1)), Schema(2, (1, 2)), Schema(2, (2,)), Schema(2, (2, 1, 1)))
        self.assert_equality((Schema(2, (2, 1)), SCHEMA), different)


class TheData(Case):

    def test_attributes(self):
        for tables in ([[1, 2, 3, 4], [5, 9]], ((1, 2, 3, 4), (5, 9)), [(1, 2, 3, 4), [5, 9]]):
            data = Data(SCHEMA, tables)
            self.assertEqual(((1, 2, 3, 4), (5, 9)), data.tables)
            self.assertEqual(SCHEMA, data.schema)
            self.assertEqual(2, len(data))
            self.assertEqual([tuple, tuple, tuple], [part.__class__ for part in (data.tables,) + data.tables])

    def test_counts_from_0_to_9(self):
        schema = Schema(2, (1,))
        self.assertEqual(((0, 9),), Data(schema, [[0, 9]]).tables)
        for count in (10, -1, 10 ** 20, True, False, None, "1", (1,)):
            self.assert_fault(Data, (schema, [[0, count]]), BadData, {"table": 0})
            self.assert_fault(Data, (schema, [[count, 0]]), BadData, {"table": 0})

    def test_not_a_schema(self):
        self.assert_refused(Data, (SCHEMA, DATA.tables), 0, odd_except(Schema), BadSchema)

    def test_no_item_for_each_table(self):
        for tables in ([], (), [[0, 0, 0, 0]], [[0, 0, 0, 0], [0, 0], [0, 0]], {0: [0, 0, 0, 0], 1: [0, 0]}, "ab"):
            self.assert_fault(Data, (SCHEMA, tables), BadData, {"table": None})
        self.assert_refused(Data, (SCHEMA, DATA.tables), 1, odd_except(tuple), BadData, table=None)

    def test_first_wrong_table(self):
        schema, good = Schema(2, (1, 2, 1, 1)), [[0, 1], [2, 3, 4, 5], [6, 7], [8, 9]]
        self.assertEqual(4, len(Data(schema, good)))
        wrong = ([], [0], [0] * 3, [0] * 5, [0, 10], [True, 0], [0, None], "ab", {0: 0, 1: 0}, None, 7, True, {0, 1})
        for counts in wrong:
            for first in range(4):
                tables = good[:first] + [counts] + good[first + 1:]
                self.assert_fault(Data, (schema, tables), BadData, {"table": first})
                for later in range(first, 4):
                    more = list(tables)
                    more[later] = [99]
                    self.assert_fault(Data, (schema, more), BadData, {"table": first})

    def test_schema_before_data(self):
        self.assert_error_order(Data, (SCHEMA, DATA.tables), [
            Fault(BadSchema, {0: None}),
            Fault(BadData, {1: None}, table=None),
        ])

    def test_arguments_are_not_kept(self):
        tables = [[1, 2, 3, 4], [5, 9]]
        data = Data(SCHEMA, tables)
        tables[0][0] = 7
        tables.pop()
        self.assertEqual(((1, 2, 3, 4), (5, 9)), data.tables)

    def test_arguments_are_not_modified(self):
        tables = [[1, 2, 3, 4], (5, 9)]
        Data(SCHEMA, tables)
        self.assertEqual([[1, 2, 3, 4], (5, 9)], tables)

    def test_equality(self):
        different = (
            Data(SCHEMA, ((1, 1, 0, 1), (1, 1))), Data(SCHEMA, ((1, 0, 1, 1), (1, 2))),
            Data(Schema(2, (2,)), ((1, 1, 0, 1),)), Data(Schema(2, (1, 2)), ((1, 2), (1, 1, 0, 1))),
        )
        self.assert_equality((Data(SCHEMA, [[1, 1, 0, 1], (1, 2)]), DATA), different)

    def test_same_counts_of_other_schemas(self):
        one, other = Data(Schema(4, (1,)), [[1, 2, 3, 4]]), Data(Schema(2, (2,)), [[1, 2, 3, 4]])
        self.assertEqual(one.tables, other.tables)
        self.assertFalse(one == other)
        self.assertTrue(one != other)


class Numbers(Case):

    def test_all_numbers(self):
        chance = chance_of(1)
        for _ in range(40):
            schema = any_schema(chance)
            data = draw_data(chance, schema)
            for table in range(len(schema)):
                cells, counts = oracle.cells(schema, table), data.tables[table]
                self.assertEqual(sum(counts), data.rows(table))
                self.assertEqual(list(counts), [data.count_of(table, cell) for cell in cells])
                self.assertEqual([pair for pair in zip(cells, counts) if pair[1] > 0], data.filled(table))
                for column in range(schema.widths[table]):
                    for value in range(schema.size):
                        rows = oracle.quantity_value(schema, table, ("value", column, value), counts)
                        self.assertEqual(rows, data.with_value(table, column, value))

    def test_nothing_filled(self):
        self.assertEqual([], Data(Schema(2, (1,)), [[0, 0]]).filled(0))

    def test_filled_is_new(self):
        self.assert_new_each_time(lambda: DATA.filled(0), lambda pairs: pairs.clear())

    def test_wrong_tables(self):
        for table in [2, -1, True, False] + odd_except():
            self.assert_fault(DATA.rows, (table,), BadTable)
            self.assert_fault(DATA.filled, (table,), BadTable)
            self.assert_fault(DATA.with_value, (table, 0, 0), BadTable)
            self.assert_fault(DATA.count_of, (table, (0, 0)), BadTable)

    def test_wrong_columns_and_values(self):
        self.assertEqual(1, DATA.with_value(0, 1, 0))
        self.assert_refused(DATA.with_value, (0, 1, 0), 1, [2, -1] + odd_except(), BadNumber)
        self.assert_refused(DATA.with_value, (1, 0, 0), 1, [1, -1] + odd_except(), BadNumber)
        self.assert_refused(DATA.with_value, (0, 1, 0), 2, [2, -1] + odd_except(), BadNumber)

    def test_wrong_cells(self):
        wrong = [(0,), (0, 0, 0), (0, 2), (2, 0), (-1, 0), (0, True), (False, 0), [0, 0], "00", (0, None), (0, (0,))]
        self.assert_refused(DATA.count_of, (0, (0, 0)), 1, wrong + odd_except(), BadCell)
        self.assert_refused(DATA.count_of, (1, (0,)), 1, [(0, 0), (), (2,), (True,), [0], 0], BadCell)

    def test_order_of_errors(self):
        self.assert_error_order(DATA.with_value, (0, 0, 0), [
            Fault(BadTable, {0: 5}), Fault(BadNumber, {1: 5}), Fault(BadNumber, {2: 5}),
        ])
        self.assert_error_order(DATA.count_of, (0, (0, 0)), [Fault(BadTable, {0: 5}), Fault(BadCell, {1: 5})])
