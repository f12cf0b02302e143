"""[35] Copies."""

from itertools import combinations, product

from surelyplan.copies import Loads, can_run, greatest_load, loads_with_copy, read_evenly, stopping_sets, surely_greatest_load
from surelyplan.errors import BadData, BadMachines, BadNotes, BadQuery, Disagrees, NotPossible, Unlike
from surelyplan.queries import Query
from surelyplan.schemas import Data, Schema
from surelyplan.statistics import Statistics
from tests import oracle
from tests.checks import DATA, QUERY, SCHEMA, STATS, Case, Fault, odd_except
from tests.random_cases import chance_of, draw_data, draw_query
from tests.test_shipping import combinations_of
from tests.test_weighing import draw_agreeing

HOMES = ((0, 1), (1, 2))
NONE = Statistics(SCHEMA, [("rows", 1, 3, 2)])
ON_DATA = (QUERY, DATA, 3, HOMES, ())
FOR_STATS = (STATS, QUERY, 3, HOMES, ())
# Three tables, of which the query uses the first one twice, and not the last one.
WIDE = Schema(2, (1, 1, 2))
SOME = Query(WIDE, ((0, (0,)), (1, (0,)), (0, (1,))), (), ())
SOME_DATA = Data(WIDE, ((3, 2), (1, 1), (9, 9, 9, 9)))
WRONG_HOMES = [
    None, (), [], list(HOMES), ((0, 1),), ((0, 1), (1, 2), (0,)), ((0, 1), ()), ((), (1,)), ((0, 1), [1, 2]), ([0, 1], (1, 2)),
    ((1, 0), (1,)), ((0, 0), (1,)), ((0, 3), (1,)), ((0, -1), (1,)), ((-1, 0), (1,)), ((False, 1), (1,)), ((0,), (True,)), ((0,), None),
    ((0,), 1), (0, 1), ((0, None), (1,)), (("0",), (1,)), (((0,),), (1,)), ((0, [1]), (1,)), "01", {0: (0,), 1: (1,)}, ((0,), {1: 1}),
]
WRONG_DOWN = [
    None, [], [0], 0, (3,), (-1,), (0, 0), (1, 0), (True,), (False,), ("0",), (None,), ((0,),), "", {}, {0}, ([],), (0, 1, 2, 3), range(1),
]


def groups(many):
    return [group for size in range(many + 1) for group in combinations(range(many), size)]


def used_by(query):
    return sorted({table for table, _ in query.atoms})


def runs(query, homes, down):
    return all(set(homes[table]) - set(down) for table in used_by(query))


def ways_to_read(many, machines):
    """All dicts from machines to numbers of rows that are many together."""
    if not machines:
        return [{}] if many == 0 else []
    return [{machines[0]: first, **rest} for first in range(many + 1) for rest in ways_to_read(many - first, machines[1:])]


def least_load(rows, homes, down):
    """The least greatest load, by all ways of reading."""
    choices = [ways_to_read(many, sorted(set(machines) - set(down))) for many, machines in zip(rows, homes) if many]
    return min(max([sum(part.get(machine, 0) for part in parts) for machine in range(4)]) for parts in product(*choices))


def rows_of(query, data):
    return [sum(counts) if table in used_by(query) else 0 for table, counts in enumerate(data.tables)]


def shared(rows, homes, down, group):
    """The rows that no machine but those of a group can read, for each of these, rounded up."""
    within = sum(many for many, machines in zip(rows, homes) if set(machines) - set(down) <= set(group))
    return -(-within // len(group))


def load_by_sets(rows, homes, down, many):
    return max(shared(rows, homes, down, group) for group in groups(many)[1:])


def draw_homes(chance, many, tables):
    return tuple(tuple(sorted(chance.sample(range(many), chance.randint(1, many)))) for _ in range(tables))


class Running(Case):

    def test_against_all_sets(self):
        chance = chance_of(350)
        sizes = set()
        for _ in range(300):
            widths = tuple(chance.randint(1, 2) for _ in range(chance.randint(1, 4)))
            query = draw_query(chance, Schema(2, widths))
            many = chance.randint(1, 4)
            homes = draw_homes(chance, many, len(widths))
            stopping = [group for group in groups(many) if not runs(query, homes, group)]
            for down in groups(many):
                self.assertIs(can_run(query, many, homes, down), down not in stopping)
            fewest = min(len(group) for group in stopping)
            self.assertEqual(sorted(group for group in stopping if len(group) == fewest), stopping_sets(query, many, homes))
            sizes.add((fewest, len(stopping_sets(query, many, homes)) > 1))
        self.assertTrue({(1, False), (1, True), (2, False), (2, True), (3, False), (4, False)} <= sizes)

    def test_some_queries(self):
        self.assertEqual([(0, 1), (1, 2)], stopping_sets(QUERY, 3, HOMES))
        self.assertEqual([(1,)], stopping_sets(QUERY, 3, ((0, 1), (1,))))
        self.assertEqual([(0, 1, 2, 3)], stopping_sets(QUERY, 4, ((0, 1, 2, 3), (0, 1, 2, 3))))
        self.assertEqual([(0,)], stopping_sets(QUERY, 1, ((0,), (0,))))
        # The last table is not used.
        self.assertEqual([(0, 2)], stopping_sets(SOME, 3, ((0, 2), (0, 1, 2), (1,))))
        self.assertIs(can_run(SOME, 3, ((0, 2), (0, 1, 2), (1,)), (1,)), True)
        self.assertIs(can_run(SOME, 3, ((0, 2), (0, 1, 2), (1,)), (0, 2)), False)
        self.assertIs(can_run(QUERY, 3, HOMES, (0, 1, 2)), False)
        self.assertIs(can_run(QUERY, 3, HOMES, (0, 2)), True)
        self.assert_new_each_time(lambda: stopping_sets(QUERY, 3, HOMES), lambda found: found.clear())


class Evenly(Case):

    def check(self, query, data, many, homes, down):
        """A Loads, compared with what the document says of it; returns the load."""
        told = read_evenly(query, data, many, homes, down)
        rows = rows_of(query, data)
        greatest = load_by_sets(rows, homes, down, many)
        self.assertEqual(greatest, greatest_load(query, data, many, homes, down))
        self.assertEqual(rows, [sum(part.values()) for part in told.parts])
        for part, machines in zip(told.parts, homes):
            self.assertTrue(set(part) <= set(machines) - set(down))
            self.assertTrue(all(isinstance(number, int) and number >= 0 for number in part.values()))
        self.assertEqual(greatest, max(sum(part.get(machine, 0) for part in told.parts) for machine in range(many)))
        self.assertIn(told.machines, groups(many)[1:])
        self.assertEqual(greatest, shared(rows, homes, down, told.machines))
        self.assertIs(told.shows(query, data, many, homes, down), True)
        return greatest

    def test_by_all_ways_of_reading(self):
        chance = chance_of(351)
        hard = 0
        for _ in range(250):
            schema = Schema(2, tuple(1 for _ in range(chance.randint(1, 4))))
            query, data = draw_query(chance, schema), draw_data(chance, schema, 2)
            many = chance.randint(1, 4)
            homes = draw_homes(chance, many, len(schema.widths))
            down = chance.choice([group for group in groups(many) if runs(query, homes, group)])
            load = self.check(query, data, many, homes, down)
            rows = rows_of(query, data)
            self.assertEqual(least_load(rows, homes, down), load)
            hard += load > -(-sum(rows) // (many - len(down)))
        self.assertTrue(hard > 20)

    def test_with_many_rows(self):
        chance = chance_of(352)
        for _ in range(300):
            schema = Schema(chance.choice((2, 6)), tuple(chance.randint(1, 2) for _ in range(chance.randint(1, 4))))
            query, data = draw_query(chance, schema), draw_data(chance, schema)
            many = chance.randint(2, 4)
            homes = draw_homes(chance, many, len(schema.widths))
            down = chance.choice([group for group in groups(many) if runs(query, homes, group)])
            self.check(query, data, many, homes, down)

    def test_some_loads(self):
        self.assertEqual(5, self.check(SOME, SOME_DATA, 3, ((0,), (1, 2), (2,)), ()))
        self.assertEqual(7, self.check(SOME, SOME_DATA, 1, ((0,), (0,), (0,)), ()))
        self.assertEqual(4, self.check(SOME, SOME_DATA, 2, ((0, 1), (0, 1), (0,)), ()))
        self.assertEqual(3, self.check(SOME, SOME_DATA, 3, ((0, 1, 2), (0, 1, 2), (0,)), ()))
        self.assertEqual(7, self.check(SOME, SOME_DATA, 4, ((0, 1), (0, 1), (3,)), (1, 3)))
        empty = Data(WIDE, ((0, 0), (0, 0), (1, 1, 1, 1)))
        self.assertEqual(0, self.check(SOME, empty, 3, ((0,), (1, 2), (2,)), (2,)))
        # Filters and values do not matter: all rows of the tables are read.
        nothing = Query(WIDE, SOME.atoms, ((0, ()),), ())
        self.assertEqual(5, self.check(nothing, SOME_DATA, 3, ((0,), (1, 2), (2,)), ()))

    def test_not_possible(self):
        for down in ((0, 1), (1, 2), (0, 1, 2)):
            self.assert_fault(read_evenly, (QUERY, DATA, 3, HOMES, down), NotPossible)
            self.assert_fault(greatest_load, (QUERY, DATA, 3, HOMES, down), NotPossible)
            self.assert_fault(surely_greatest_load, (STATS, QUERY, 3, HOMES, down), NotPossible)
            self.assert_fault(Loads([{}, {}], (0,)).shows, (QUERY, DATA, 3, HOMES, down), NotPossible)
        self.assertEqual(5, self.check(SOME, SOME_DATA, 3, ((0,), (1,), (2,)), (2,)))


class Shows(Case):

    def test_parts_and_machines(self):
        # Three rows of each table, and machines 0 and 1 for the first one, 1 and 2 for the second one.
        for parts, machines, right in [
            ([{0: 2, 1: 1}, {1: 1, 2: 2}], (0, 1, 2), True), ([{0: 2, 1: 1}, {2: 2, 1: 1}], [0, 1, 2], True),
            ([{0: 1, 1: 2}, {2: 2, 1: 1}], (0, 1, 2), False), ([{0: 2, 1: 1}, {2: 3}], (0, 1, 2), False),
            ([{0: 2, 1: 1}, {2: 2}], (0, 1, 2), False), ([{0: 2, 1: 1}, {1: 2, 2: 2}], (0, 1, 2), False), ([{0: 2}, {1: 1, 2: 2}], (0, 1, 2), False),
            ([{0: 2, 1: 0}, {1: 1, 2: 2}], (0, 1, 2), False), ([{0: 2, 2: 1}, {1: 2, 2: 1}], (0, 1, 2), False),
            ([{0: 2, 1: 1}, {0: 1, 2: 2}], (0, 1, 2), False), ([{0: 2, 1: 1, 2: 0}, {1: 1, 2: 2}], (0, 1, 2), False),
            ([{0: 2, 1: 1, 3: 0}, {1: 1, 2: 2}], (0, 1, 2), False), ([{0: 4, 1: -1}, {1: 1, 2: 2}], (0, 1, 2), False),
            ([{0: 2, True: 1}, {1: 1, 2: 2}], (0, 1, 2), False), ([{False: 2, 1: 1}, {1: 1, 2: 2}], (0, 1, 2), False),
            ([{0: 2, 1: True}, {1: 1, 2: 2}], (0, 1, 2), False), ([{0: 2, 1: 1}, {1: True, 2: 2}], (0, 1, 2), False),
            ([{0: 2, 1: 1}], (0, 1, 2), False), ([{0: 2, 1: 1}, {1: 1, 2: 2}, {}], (0, 1, 2), False), ([], (0, 1, 2), False),
            ([{0: 2, 1: 1}, {1: 1, 2: 2}], (0, 1), True), ([{0: 2, 1: 1}, {1: 1, 2: 2}], (1, 2), True), ([{0: 2, 1: 1}, {1: 1, 2: 2}], (0,), False),
            ([{0: 2, 1: 1}, {1: 1, 2: 2}], (0, 2), False), ([{0: 2, 1: 1}, {1: 1, 2: 2}], (), False), ([{0: 2, 1: 1}, {1: 1, 2: 2}], (2, 1), False),
            ([{0: 2, 1: 1}, {1: 1, 2: 2}], (0, 0, 1), False), ([{0: 2, 1: 1}, {1: 1, 2: 2}], (0, 1, 2, 3), False),
            ([{0: 2, 1: 1}, {1: 1, 2: 2}], (0, True), False), ([{0: 2, 1: 1}, {1: 1, 2: 2}], (False, 1), False),
            ([{0: 2, 1: 1}, {1: 1, 2: 2}], (-1, 0, 1), False), ([{0: 2, 1: 1}, {1: 1, 2: 2}], (1, 2, 0), False),
        ]:
            self.assertIs(Loads(parts, machines).shows(*ON_DATA), right, (parts, machines))

    def test_tables_that_are_not_used(self):
        homes = ((0,), (1, 2), (1, 2))
        for last, right in [({}, True), ({1: 0}, True), ({1: 0, 2: 0}, True), ({1: 1}, False), ({0: 0}, False), ({1: 36}, False), ({1: 1, 2: -1}, False)]:
            self.assertIs(Loads([{0: 5}, {1: 2}, last], (0,)).shows(SOME, SOME_DATA, 3, homes, ()), right, last)
        self.assertIs(Loads([{0: 5}, {1: 2}, {}], (0,)).shows(SOME, SOME_DATA, 3, ((0,), (1,), (2,)), (2,)), True)
        self.assertIs(Loads([{0: 5}, {1: 2}, {2: 0}], (0,)).shows(SOME, SOME_DATA, 3, ((0,), (1,), (2,)), (2,)), False)

    def test_machines_that_are_down(self):
        good = Loads([{0: 3}, {2: 3}], (0,))
        self.assertIs(good.shows(QUERY, DATA, 3, HOMES, (1,)), True)
        self.assertIs(good.shows(QUERY, DATA, 3, HOMES, ()), False)
        self.assertIs(Loads([{0: 3}, {2: 3}], (0, 1, 2)).shows(QUERY, DATA, 3, HOMES, (1,)), False)
        self.assertIs(Loads([{0: 3}, {2: 3}], (0, 2)).shows(QUERY, DATA, 3, HOMES, (1,)), True)
        self.assertIs(Loads([{0: 3, 1: 0}, {2: 3}], (0,)).shows(QUERY, DATA, 3, HOMES, (1,)), False)
        # Machines that are down may be among those that show it.
        self.assertIs(Loads([{0: 3}, {0: 3}], (0,)).shows(QUERY, DATA, 2, ((0, 1), (0, 1)), (1,)), True)
        self.assertIs(Loads([{0: 3}, {0: 3}], (0, 1)).shows(QUERY, DATA, 2, ((0, 1), (0, 1)), (1,)), False)

    def test_current_attributes(self):
        told = Loads([{0: 2, 1: 1}, {1: 1, 2: 2}], (0, 1, 2))
        told.parts[0][0] = 3
        self.assertIs(told.shows(*ON_DATA), False)
        told.parts = [{0: 1, 1: 2}, {2: 3}]
        self.assertIs(told.shows(*ON_DATA), False)
        told.parts = [{0: 2, 1: 1}, {1: 1, 2: 2}]
        self.assertIs(told.shows(*ON_DATA), True)
        told.machines = [1]
        self.assertIs(told.shows(*ON_DATA), False)
        told.machines = [0, 1]
        self.assertIs(told.shows(*ON_DATA), True)
        other = Data(SCHEMA, ((1, 1, 0, 1), (1, 3)))
        self.assertIs(told.shows(QUERY, other, 3, HOMES, ()), False)

    def test_parts_are_copied(self):
        parts, machines = [{0: 2, 1: 1}, {1: 1, 2: 2}], [0, 1, 2]
        told = Loads(parts, machines)
        parts[0][0] = 9
        parts.append({})
        machines.append(3)
        self.assertEqual(([{0: 2, 1: 1}, {1: 1, 2: 2}], (0, 1, 2)), (told.parts, told.machines))
        self.assert_new_each_time(lambda: read_evenly(*ON_DATA).parts, lambda parts: parts[0].clear())

    def test_equality(self):
        self.assert_equality((Loads([{0: 2, 1: 1}], (0,)), Loads([{1: 1, 0: 2}], [0])), [
            Loads([{0: 2}], (0,)), Loads([{0: 2, 1: 1}], (1,)), Loads([], (0,)), Loads([{0: 2, 1: 1}], ()),
        ])


class OverAllData(Case):

    def test_against_all_agreeing_data(self):
        chance = chance_of(353)
        for case in range(80):
            schema = (SCHEMA, Schema(2, (1, 1)), Schema(3, (1, 1, 1)))[case % 3]
            stats, _ = draw_agreeing(chance, schema, chance.randint(3, 12), chance.randint(0, 3))
            query = draw_query(chance, schema)
            used = used_by(query)
            sums = [sorted({sum(counts) for counts in oracle.agreeing(stats, table)}) if table in used else [0] for table in range(len(schema))]
            many = chance.randint(1, 4)
            homes = draw_homes(chance, many, len(schema))
            down = chance.choice([group for group in groups(many) if runs(query, homes, group)])
            wanted = max(load_by_sets(rows, homes, down, many) for rows in product(*sums))
            self.assertEqual(wanted, surely_greatest_load(stats, query, many, homes, down))

    def test_as_on_data(self):
        stats = Statistics(SCHEMA, STATS.notes + (("rows", 1, 2, 4), ("cell", 1, (0,), 1, 2)))
        for homes in (HOMES, ((0,), (1, 2)), ((0, 2), (2,)), ((0, 1, 2), (0, 1, 2))):
            wanted = max(greatest_load(QUERY, data, 3, homes, ()) for data in combinations_of(stats, QUERY))
            self.assertEqual(wanted, surely_greatest_load(stats, QUERY, 3, homes, ()))

    def test_very_many_data(self):
        schema = Schema(3, (2, 2, 2, 2))
        query = Query(schema, tuple((table, (0, 1)) for table in range(4)), (), ())
        free = Statistics(schema, [])
        homes = ((0, 1, 2, 3),) * 4
        self.assertEqual(81, surely_greatest_load(free, query, 4, homes, ()))
        self.assertEqual(324, surely_greatest_load(free, query, 4, homes, (0, 2, 3)))
        less = Statistics(schema, [("value", 0, 0, value, 0, 5) for value in range(3)] + [("value", 0, 1, 0, 3, 4), ("rows", 1, 0, 7)])
        self.assertEqual(-(-(15 + 7 + 162) // 4), surely_greatest_load(less, query, 4, homes, ()))


class WithCopies(Case):

    def test_all_pairs(self):
        chance = chance_of(354)
        for _ in range(150):
            schema = Schema(2, tuple(chance.randint(1, 2) for _ in range(chance.randint(1, 4))))
            query, data = draw_query(chance, schema), draw_data(chance, schema, 4)
            many = chance.randint(1, 4)
            homes = draw_homes(chance, many, len(schema))
            wanted = []
            for table, machine in product(range(len(schema)), range(many)):
                if machine not in homes[table]:
                    more = list(homes)
                    more[table] = tuple(sorted(homes[table] + (machine,)))
                    wanted.append(((table, machine), greatest_load(query, data, many, tuple(more), ())))
            self.assertEqual(wanted, list(loads_with_copy(query, data, many, homes).items()))

    def test_some(self):
        self.assertEqual({}, loads_with_copy(QUERY, DATA, 2, ((0, 1), (0, 1))))
        self.assertEqual({(0, 1): 3, (1, 0): 3}, loads_with_copy(QUERY, DATA, 2, ((0,), (1,))))
        wanted = {(0, 1): 3, (0, 2): 3, (1, 0): 5, (2, 0): 5, (2, 1): 5}
        self.assertEqual(list(wanted.items()), list(loads_with_copy(SOME, SOME_DATA, 3, ((0,), (1, 2), (2,))).items()))


class Errors(Case):

    def test_order(self):
        for call in (read_evenly, greatest_load, Loads([{}, {}], (0,)).shows):
            self.assert_error_order(call, ON_DATA, [
                Fault(BadQuery, {0: None}, part=None), Fault(BadData, {1: SCHEMA}, table=None), Fault(Unlike, {1: SOME_DATA}),
                Fault(BadMachines, {2: 5}), Fault(BadMachines, {3: ((), (1,))}), Fault(BadMachines, {4: (3,)}), Fault(NotPossible, {4: (0, 1)}),
            ])
        self.assert_error_order(surely_greatest_load, FOR_STATS, [
            Fault(BadNotes, {0: SCHEMA}, index=None), Fault(BadQuery, {1: None}, part=None), Fault(Unlike, {1: SOME}), Fault(Disagrees, {0: NONE}, index=1),
            Fault(BadMachines, {2: 0}), Fault(BadMachines, {3: ((), (1,))}), Fault(BadMachines, {4: (3,)}), Fault(NotPossible, {4: (0, 1)}),
        ])
        self.assert_error_order(loads_with_copy, ON_DATA[:4], [
            Fault(BadQuery, {0: DATA}, part=None), Fault(BadData, {1: SCHEMA}, table=None), Fault(Unlike, {1: SOME_DATA}), Fault(BadMachines, {2: 5}),
            Fault(BadMachines, {3: ((), (1,))}),
        ])
        self.assert_error_order(can_run, (QUERY, 3, HOMES, ()), [
            Fault(BadQuery, {0: DATA}, part=None), Fault(BadMachines, {1: 5}), Fault(BadMachines, {2: ((), (1,))}), Fault(BadMachines, {3: (3,)}),
        ])
        self.assert_error_order(stopping_sets, (QUERY, 3, HOMES), [
            Fault(BadQuery, {0: DATA}, part=None), Fault(BadMachines, {1: 5}), Fault(BadMachines, {2: ((), (1,))}),
        ])

    def test_wrong_machines(self):
        numbers = odd_except() + [0, 5, -1, 3 ** 50]
        for call, good, place in [
            (can_run, (QUERY, 3, HOMES, ()), 1), (stopping_sets, (QUERY, 3, HOMES), 1), (read_evenly, ON_DATA, 2), (greatest_load, ON_DATA, 2),
            (surely_greatest_load, FOR_STATS, 2), (loads_with_copy, ON_DATA[:4], 2), (Loads([], ()).shows, ON_DATA, 2),
        ]:
            self.assert_refused(call, good, place, numbers, BadMachines)
            self.assert_refused(call, good, place + 1, WRONG_HOMES + odd_except(), BadMachines)
            if len(good) > place + 2:
                odd = [value for value in odd_except() if value != ()]
                self.assert_refused(call, good, place + 2, WRONG_DOWN + odd, BadMachines)
        # A machine must exist: with two machines, there is no machine 2.
        self.assert_fault(can_run, (QUERY, 2, HOMES, ()), BadMachines)
        self.assert_fault(can_run, (QUERY, 2, ((0,), (1,)), (2,)), BadMachines)
        self.assertIs(can_run(QUERY, 4, HOMES, (3,)), True)
