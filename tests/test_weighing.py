"""[7] What follows and [8] weighted sums."""

from itertools import product

from surelyplan.errors import BadNotes, BadQuantity, BadTable, BadWeights, Disagrees
from surelyplan.schemas import Schema
from surelyplan.statistics import Statistics
from surelyplan.weighing import Weighed, follows, needed_notes, tightest, weigh, weighed_ends
from tests import oracle
from tests.checks import DATA, QUERY, SCHEMA, STATS, Case, Fault, odd_except
from tests.random_cases import chance_of, draw_data, draw_note, draw_odd_stats, draw_stats

THREE = Schema(3, (2, 1))
NONE = Statistics(SCHEMA, [("rows", 1, 3, 2)])
WEIGHTS = (5, 1, 1, 5)


def draw_agreeing(chance, schema, many, spread, most=9):
    """Statistics with which some data agree, and these data."""
    data = draw_data(chance, schema, most)
    notes = []
    while len(notes) < many:
        table = chance.randrange(len(schema))
        note = draw_note(chance, schema, table, data.tables[table], spread)
        if oracle.note_holds(schema, note, data.tables[table]):
            notes.append(note)
    return Statistics(schema, notes), data


class WeightedSums(Case):

    def check_prices(self, stats, table, weights):
        """Check by the prices alone that a Weighed is right; returns the ends."""
        told = weigh(stats, table, weights)
        self.assertIs(told.shows(stats, table, weights), True)
        low, high = weighed_ends(stats, table, weights)
        for counts, sign, prices, end in ((told.least, 1, told.low, low), (told.greatest, -1, told.high, high)):
            self.assertEqual(tuple, counts.__class__)
            self.assertEqual(len(oracle.cells(stats.schema, table)), len(counts))
            self.assertTrue(all(0 <= count <= 9 for count in counts))
            self.assertTrue(all(oracle.note_holds(stats.schema, n, counts) for n in stats.notes if n[1] == table))
            self.assertEqual(sorted(oracle.nodes(stats.schema, table)), sorted(prices))
            self.assertEqual(end, oracle.weighted(counts, weights))
            self.assertEqual(sign * end, oracle.priced(stats, table, weights, prices, sign))
        return low, high

    def test_against_a_list_of_all_tables(self):
        chance = chance_of(20)
        for turn in range(240):
            schema = (Schema(2, (2, 1)), Schema(3, (1, 1)), Schema(2, (1, 2)))[turn % 3]
            stats, _ = draw_agreeing(chance, schema, chance.randint(0, 12), chance.randint(0, 6))
            table = chance.randrange(2)
            weights = tuple(chance.choice((0, 9, chance.randint(0, 9))) for _ in oracle.cells(schema, table))
            sums = [oracle.weighted(counts, weights) for counts in oracle.agreeing(stats, table)]
            self.assertEqual((min(sums), max(sums)), self.check_prices(stats, table, weights))

    def test_few_tables_of_three_values(self):
        chance = chance_of(21)
        schema = Schema(3, (2,))
        for _ in range(60):
            small = [chance.randint(0, 8) for _ in range(9)]
            notes = [("cell", 0, cell, low, low + 1) for cell, low in zip(oracle.cells(schema, 0), small)]
            for _ in range(chance.randint(1, 6)):
                counts = [low + chance.randint(0, 1) for low in small]
                notes.append(draw_note(chance, schema, 0, counts, 1))
            stats = Statistics(schema, notes)
            tables = oracle.agreeing(stats, 0, product(*[(low, low + 1) for low in small]))
            weights = tuple(chance.randint(0, 9) for _ in range(9))
            if tables:
                sums = [oracle.weighted(counts, weights) for counts in tables]
                self.assertEqual((min(sums), max(sums)), self.check_prices(stats, 0, weights))

    def test_many_tables_of_three_values_by_prices_alone(self):
        chance = chance_of(22)
        for turn in range(150):
            stats, data = draw_agreeing(chance, THREE, chance.randint(0, 16), chance.randint(0, 20))
            weights = tuple(chance.choice((0, 9, chance.randint(0, 9))) for _ in range(9))
            low, high = self.check_prices(stats, 0, weights)
            self.assertTrue(low <= oracle.weighted(data.tables[0], weights) <= high)

    def test_notes_in_one_direction_need_rests_in_both(self):
        chance = chance_of(23)
        for turn in range(60):
            schema = Schema(2 + turn % 2, (1 + turn // 2 % 2,))
            stats = draw_odd_stats(chance, schema, 0)
            if oracle.agreeing(stats, 0, [(0,) * len(oracle.cells(schema, 0))]):
                self.check_prices(stats, 0, tuple(chance.randint(0, 9) for _ in oracle.cells(schema, 0)))

    def test_weights_of_0_and_9(self):
        free = Statistics(THREE, [])
        self.assertEqual((0, 0), weighed_ends(free, 0, (0,) * 9))
        self.assertEqual((0, 729), weighed_ends(free, 0, (9,) * 9))
        self.assertEqual((0, 243), weighed_ends(free, 1, (9,) * 3))
        ten = Statistics(THREE, [("rows", 0, 10, 12)])
        self.assertEqual((9, 108), weighed_ends(ten, 0, (0, 9, 9, 9, 9, 9, 9, 9, 9)))
        self.check_prices(ten, 0, (0, 9, 9, 9, 9, 9, 9, 9, 9))

    def test_only_notes_about_this_table_count(self):
        stats = Statistics(Schema(2, (1, 1)), [("rows", 0, 4, 4), ("rows", 1, 7, 7)])
        self.assertEqual([(4, 8), (7, 14)], [weighed_ends(stats, table, (1, 2)) for table in (0, 1)])

    def test_errors(self):
        for call in (weigh, weighed_ends, weigh(STATS, 0, WEIGHTS).shows):
            self.assert_refused(call, (STATS, 0, WEIGHTS), 0, odd_except(Statistics), BadNotes, index=None)
            self.assert_refused(call, (STATS, 0, WEIGHTS), 1, [2, -1] + odd_except(), BadTable)
            wrong = [
                list(WEIGHTS), (5, 1, 1), (5, 1, 1, 5, 0), (5, 1, 1, 10), (-1, 1, 1, 5), (True, 1, 1, 5), (5, 1, 1, None),
                (5, 1, (1,), 5), "5115",
            ]
            self.assert_refused(call, (STATS, 0, WEIGHTS), 2, wrong + odd_except(), BadWeights)
            self.assert_error_order(call, (STATS, 0, WEIGHTS), [
                Fault(BadNotes, {0: None}, index=None), Fault(BadTable, {1: 2}), Fault(BadWeights, {2: (1,)}),
            ])
            self.assert_fault(call, (NONE, 2, WEIGHTS), BadTable)
            self.assert_fault(call, (NONE, 0, WEIGHTS), Disagrees, {"index": 1})
            self.assert_fault(call, (NONE, 0, None), Disagrees, {"index": 1})
            self.assert_fault(call, (STATS, 1, WEIGHTS), BadWeights)

    def test_first_table_that_does_not_agree(self):
        schema = Schema(2, (1, 2, 1))
        for notes, index in (
            ([("rows", 1, 3, 2), ("rows", 0, 3, 2)], 0), ([("rows", 2, 3, 2)], 2),
            ([("value", 1, 0, 0, 5, 9), ("rows", 2, 1, 0), ("rows", 1, 0, 3)], 1),
        ):
            stats = Statistics(schema, notes)
            for call, arguments in (
                (weigh, (2, (1, 1))), (weighed_ends, (0, (1, 1))), (tightest, (0, ("rows",))),
                (follows, (("rows", 0, 0, 9),)), (needed_notes, ()),
            ):
                self.assert_fault(call, (stats,) + arguments, Disagrees, {"index": index})


class Shows(Case):

    def setUp(self):
        self.told = weigh(STATS, 0, WEIGHTS)
        self.parts = [self.told.least, self.told.greatest, self.told.low, self.told.high]

    def shows(self, *parts):
        return Weighed(*parts).shows(STATS, 0, WEIGHTS)

    def test_right(self):
        self.assertIs(self.shows(*self.parts), True)
        least, greatest, low, high = self.parts
        self.assertEqual(((0, 2, 1, 0), (1, 1, 0, 1)), (least, greatest))
        self.assertIs(self.shows(list(least), list(greatest), dict(reversed(low.items())), high), True)

    def test_all_prices_may_be_higher(self):
        least, greatest, low, high = self.parts
        self.assertIs(self.shows(least, greatest, {node: low[node] + 7 for node in low}, high), True)
        self.assertIs(self.shows(least, greatest, low, {node: high[node] - 7 for node in high}), True)

    def test_prices_wrong_at_one_node(self):
        stats = Statistics(THREE, [("value", 0, column, value, 4, 7) for column in (0, 1) for value in range(3)])
        weights = (9, 3, 1, 2, 8, 5, 0, 4, 6)
        told = weigh(stats, 0, weights)
        self.assertIs(told.shows(stats, 0, weights), True)
        wrong = 0
        for place, sign in (("low", 1), ("high", -1)):
            for node in getattr(told, place):
                for change in (-50, -3, -1, 1, 3, 50):
                    prices = dict(getattr(told, place))
                    prices[node] += change
                    right = oracle.priced(stats, 0, weights, prices, sign) == oracle.priced(
                        stats, 0, weights, getattr(told, place), sign)
                    parts = {"low": told.low, "high": told.high, place: prices}
                    shown = Weighed(told.least, told.greatest, parts["low"], parts["high"]).shows(stats, 0, weights)
                    self.assertIs(shown, right)
                    wrong += not right
        self.assertTrue(wrong > 60)

    def test_a_node_too_many_or_too_few(self):
        least, greatest, low, high = self.parts
        for node in low:
            fewer = {other: low[other] for other in low if other != node}
            self.assertIs(self.shows(least, greatest, fewer, high), False)
            self.assertIs(self.shows(least, greatest, {**fewer, ("first", 2): low[node]}, high), False)
            fewer = {other: high[other] for other in high if other != node}
            self.assertIs(self.shows(least, greatest, low, fewer), False)
        for node in (("first", 2), ("second", -1), ("end", 1), ("cell", 0)):
            self.assertIs(self.shows(least, greatest, {**low, node: 0}, high), False)
            self.assertIs(self.shows(least, greatest, low, {**high, node: 0}), False)
        self.assertIs(self.shows(least, greatest, {}, high), False)

    def test_tables_that_do_not_agree_or_are_not_at_an_end(self):
        least, greatest, low, high = self.parts
        self.assertIs(self.shows(greatest, greatest, low, high), False)
        self.assertIs(self.shows(least, least, low, high), False)
        self.assertIs(self.shows(greatest, least, low, high), False)
        # Among these are tables with the sums of both ends that do not agree with a note.
        self.assertEqual([3, 11], [oracle.weighted(counts, WEIGHTS) for counts in ((0, 1, 2, 0), (1, 0, 1, 1))])
        wrong = ((0, 1, 2, 0), (1, 0, 1, 1), (0, 0, 0, 0), (0, 3, 0, 0), (), (0, 2, 1), (0, 2, 1, 0, 0), (0, 2, 1, 10))
        for counts in wrong:
            self.assertIs(self.shows(counts, greatest, low, high), False)
            self.assertIs(self.shows(least, counts, low, high), False)

    def test_booleans_are_no_integers(self):
        free = Statistics(SCHEMA, [])
        one = {("top", 0): 1, ("end", 0): 1}
        self.assertIs(Weighed((0, 0), (9, 9), one, one).shows(free, 1, (1, 2)), True)
        for wrong in ({("top", 0): True, ("end", 0): 1}, {("top", False): 1, ("end", 0): 1}):
            self.assertIs(Weighed((0, 0), (9, 9), wrong, one).shows(free, 1, (1, 2)), False)
            self.assertIs(Weighed((0, 0), (9, 9), one, wrong).shows(free, 1, (1, 2)), False)
        self.assertIs(Weighed((False, 0), (9, 9), one, one).shows(free, 1, (1, 2)), False)

    def test_other_ends_need_other_prices(self):
        free = Statistics(SCHEMA, [])
        zero = {node: 0 for node in oracle.nodes(SCHEMA, 1)}
        self.assertIs(Weighed((0, 0), (9, 9), zero, zero).shows(free, 1, (1, 2)), True)
        self.assertIs(Weighed((0, 1), (9, 9), zero, zero).shows(free, 1, (1, 2)), False)
        self.assertIs(Weighed((0, 0), (9, 8), zero, zero).shows(free, 1, (1, 2)), False)
        self.assertIs(Weighed((0, 0), (9, 9), zero, zero).shows(free, 1, (0, 2)), True)
        self.assertIs(Weighed((5, 0), (0, 9), zero, zero).shows(free, 1, (0, 2)), True)

    def test_the_right_tables_with_prices_that_show_too_little(self):
        free = Statistics(SCHEMA, [])
        prices = {("top", 0): 1, ("end", 0): 0}
        zero = {("top", 0): 0, ("end", 0): 0}
        self.assertEqual(-18, oracle.priced(free, 1, (1, 2), prices, 1))
        self.assertIs(Weighed((0, 0), (9, 9), prices, zero).shows(free, 1, (1, 2)), False)

    def test_attributes_assigned_anew(self):
        told, least = self.told, self.told.least
        told.least = told.greatest
        self.assertIs(told.shows(STATS, 0, WEIGHTS), False)
        told.least = list(least)
        self.assertIs(told.shows(STATS, 0, WEIGHTS), True)
        low = told.low
        told.low = {}
        self.assertIs(told.shows(STATS, 0, WEIGHTS), False)
        told.low = low
        self.assertIs(told.shows(STATS, 0, WEIGHTS), True)
        told.high[("top", 0)] += 1000
        self.assertIs(told.shows(STATS, 0, WEIGHTS), False)
        told.high[("top", 0)] -= 1000
        told.greatest = (0, 0, 0, 0)
        self.assertIs(told.shows(STATS, 0, WEIGHTS), False)

    def test_arguments_are_copied(self):
        counts, low, high = [1, 2], {("top", 0): 1}, {("end", 0): 2}
        told = Weighed(counts, counts, low, high)
        counts.append(3)
        low.clear()
        high[("top", 0)] = 4
        self.assertEqual([(1, 2), (1, 2)], [told.least, told.greatest])
        self.assertEqual([{("top", 0): 1}, {("end", 0): 2}], [told.low, told.high])

    def test_results_are_new(self):
        self.assert_new_each_time(lambda: weigh(STATS, 0, WEIGHTS), lambda told: told.low.clear())

    def test_equality(self):
        parts = ((1, 2), (3, 4), {("top", 0): 1, ("end", 0): 2}, {("top", 0): 3})
        different = [Weighed((1, 3), *parts[1:]), Weighed(parts[0], (3, 5), *parts[2:])]
        different += [Weighed(*parts[:2], {("top", 0): 1}, parts[3]), Weighed(*parts[:3], {("top", 0): 4})]
        same = Weighed([1, 2], [3, 4], {("end", 0): 2, ("top", 0): 1}, {("top", 0): 3})
        self.assert_equality((Weighed(*parts), same), different)


class WhatFollows(Case):

    def test_tightest_against_a_list_of_all_tables(self):
        chance = chance_of(24)
        for turn in range(100):
            schema = (Schema(2, (2, 1)), Schema(3, (1, 1)))[turn % 2]
            stats, _ = draw_agreeing(chance, schema, chance.randint(0, 12), chance.randint(0, 6))
            table = chance.randrange(2)
            tables = oracle.agreeing(stats, table)
            for quantity in oracle.quantities(schema, table):
                values = oracle.values_of(schema, table, quantity, tables)
                self.assertEqual((min(values), max(values)), tightest(stats, table, quantity))

    def test_tightest_with_three_values_by_prices(self):
        chance = chance_of(25)
        for _ in range(25):
            stats, _ = draw_agreeing(chance, THREE, chance.randint(0, 16), chance.randint(0, 9))
            for quantity in oracle.quantities(THREE, 0):
                about = oracle.cells_of(THREE, 0, quantity)
                weights = tuple(int(cell in about) for cell in oracle.cells(THREE, 0))
                self.assertEqual(weighed_ends(stats, 0, weights), tightest(stats, 0, quantity))

    def test_tightest_without_notes(self):
        free = Statistics(THREE, [])
        for table in (0, 1):
            for quantity in oracle.quantities(THREE, table):
                most = 9 * len(oracle.cells_of(THREE, table, quantity))
                self.assertEqual((0, most), tightest(free, table, quantity))

    def test_errors_of_tightest(self):
        good = (STATS, 0, ("rows",))
        self.assert_refused(tightest, good, 0, odd_except(Statistics), BadNotes, index=None)
        self.assert_refused(tightest, good, 1, [2, -1] + odd_except(), BadTable)
        wrong = [
            ("rows", 0), ("value", 0), ("value", 2, 0), ("value", 0, 2), ("value", 0, 0, 0), ("value", True, 0),
            ("value", 0, True), ("cell", (0,)), ("cell", (0, 2)), ("cell", (0, True)), ("cell", [0, 0]), ("cell", 0, 0),
            ["rows"], ("row",), ("rows", 0, 0, 9), ("cell",), ("cell", None), (None,), (0,), (("rows",),),
        ]
        odd = [value for value in odd_except() if value != ("rows",)]
        self.assert_refused(tightest, good, 2, wrong + odd, BadQuantity)
        self.assert_fault(tightest, (STATS, 1, ("value", 1, 0)), BadQuantity)
        self.assert_error_order(tightest, good, [
            Fault(BadNotes, {0: None}, index=None), Fault(BadTable, {1: 2}), Fault(BadQuantity, {2: None}),
        ])
        self.assert_error_order(tightest, good, [
            Fault(Disagrees, {0: NONE}, index=1), Fault(BadQuantity, {2: None}),
        ])
        self.assert_fault(tightest, (NONE, 2, None), BadTable)

    def test_follows_against_a_list_of_all_tables(self):
        chance = chance_of(26)
        seen = []
        for turn in range(150):
            schema = (Schema(2, (2, 1)), Schema(3, (1, 1)))[turn % 2]
            stats, data = draw_agreeing(chance, schema, chance.randint(0, 10), chance.randint(0, 3))
            for _ in range(4):
                table = chance.randrange(2)
                note = draw_note(chance, schema, table, data.tables[table], chance.randint(0, 9))
                values = oracle.values_of(schema, table, oracle.quantity_of(note), oracle.agreeing(stats, table))
                wanted = note[-2] <= min(values) and max(values) <= note[-1]
                self.assertIs(wanted, follows(stats, note))
                seen.append(wanted)
        self.assertTrue(50 < sum(seen) < len(seen) - 50)

    def test_follows_at_its_bounds(self):
        stats = Statistics(SCHEMA, [("rows", 0, 2, 5)])
        for low, high, wanted in ((2, 5, True), (0, 36, True), (3, 5, False), (2, 4, False), (5, 2, False), (1, 6, True)):
            self.assertIs(wanted, follows(stats, ("rows", 0, low, high)))
        self.assertIs(follows(stats, ("value", 0, 1, 1, 0, 5)), True)
        self.assertIs(follows(stats, ("value", 0, 1, 1, 0, 4)), False)
        self.assertIs(follows(stats, ("cell", 1, (1,), 0, 9)), True)
        self.assertIs(follows(stats, ("cell", 1, (1,), 0, 8)), False)

    def test_a_note_whose_bounds_cross_does_not_follow(self):
        for stats in (STATS, Statistics(SCHEMA, []), Statistics(SCHEMA, [("rows", 0, 3, 3)])):
            for note in (("rows", 0, 4, 3), ("rows", 0, 3, 2), ("cell", 1, (0,), 1, 0), ("value", 0, 0, 0, 36, 0)):
                self.assertIs(follows(stats, note), False)

    def test_errors_of_follows(self):
        good = (STATS, ("rows", 0, 2, 5))
        self.assert_refused(follows, good, 0, odd_except(Statistics), BadNotes, index=None)
        wrong = [
            ["rows", 0, 2, 5], ("rows", 0, 2), ("rows", 2, 2, 5), ("rows", 0, 2, 37), ("rows", 0, -1, 5), ("row", 0, 2, 5),
            ("rows", True, 2, 5), ("rows", 0, True, 5), ("value", 0, 2, 0, 0, 3), ("cell", 0, (0,), 0, 3), ("rows",),
        ]
        self.assert_refused(follows, good, 1, wrong + odd_except(), BadQuantity)
        self.assert_error_order(follows, good, [Fault(BadNotes, {0: None}, index=None), Fault(BadQuantity, {1: None})])
        self.assert_error_order(follows, good, [Fault(Disagrees, {0: NONE}, index=1), Fault(BadQuantity, {1: None})])

    def test_needed_notes_by_their_definition(self):
        chance = chance_of(27)
        dropped = 0
        for turn in range(120):
            schema = (Schema(2, (2, 1)), Schema(3, (1, 1)))[turn % 2]
            stats, _ = draw_agreeing(chance, schema, chance.randint(0, 12), chance.randint(0, 4))
            kept = list(range(len(stats)))
            for index, note in enumerate(stats.notes):
                others = Statistics(schema, [stats.notes[other] for other in kept if other != index])
                tables = oracle.agreeing(others, note[1])
                values = oracle.values_of(schema, note[1], oracle.quantity_of(note), tables)
                if note[-2] <= min(values) and max(values) <= note[-1]:
                    kept.remove(index)
            self.assertEqual(kept, needed_notes(stats))
            dropped += len(stats) - len(kept)
        self.assertTrue(dropped > 100)

    def test_needed_notes_in_order(self):
        same = ("rows", 0, 2, 5)
        self.assertEqual([2], needed_notes(Statistics(SCHEMA, [same, same, same])))
        self.assertEqual([0], needed_notes(Statistics(SCHEMA, [same, ("rows", 0, 0, 9)])))
        self.assertEqual([], needed_notes(Statistics(SCHEMA, [("rows", 0, 0, 36), ("cell", 1, (0,), 0, 9)])))
        self.assertEqual([], needed_notes(Statistics(SCHEMA, [])))
        # Each of the three follows from the other two: the first one is dropped, then the others are needed.
        three = [("cell", 1, (0,), 2, 2), ("cell", 1, (1,), 3, 3), ("rows", 1, 5, 5)]
        self.assertEqual([1, 2], needed_notes(Statistics(SCHEMA, three)))
        self.assertEqual([1, 2], needed_notes(Statistics(SCHEMA, three[::-1])))

    def test_needed_notes_are_new(self):
        self.assert_new_each_time(lambda: needed_notes(STATS), lambda indices: indices.clear())

    def test_errors_of_needed_notes(self):
        self.assert_refused(needed_notes, (STATS,), 0, odd_except(Statistics), BadNotes, index=None)
        self.assert_fault(needed_notes, (NONE,), Disagrees, {"index": 1})

    def test_very_many_tables(self):
        schema = Schema(3, (2, 2, 2, 2))
        notes = [("value", 0, column, value, 13, 20) for column in (0, 1) for value in range(3)]
        notes += [("cell", 0, cell, 1, 8) for cell in oracle.cells(schema, 0)] + [("rows", 0, 40, 59)]
        stats = Statistics(schema, notes)
        self.assertEqual((40, 59), tightest(stats, 0, ("rows",)))
        self.assertEqual((0, 81), tightest(stats, 3, ("rows",)))
        self.assertIs(follows(stats, ("cell", 0, (1, 1), 1, 8)), True)
        # Three values have 39 to 60 rows, and two of them leave 0 to 33 rows for the third one: all notes are needed.
        self.assertEqual(16, len(needed_notes(stats)))
        self.assertIs(weigh(stats, 0, (1, 2, 3, 4, 5, 6, 7, 8, 9)).shows(stats, 0, (1, 2, 3, 4, 5, 6, 7, 8, 9)), True)


class OtherArguments(Case):

    def test_data_and_queries_are_no_statistics(self):
        for call, rest in ((tightest, (0, ("rows",))), (follows, (("rows", 0, 0, 1),)), (needed_notes, ())):
            for wrong in (DATA, QUERY, SCHEMA):
                self.assert_fault(call, (wrong,) + rest, BadNotes, {"index": None})

    def test_statistics_of_chance_agree_or_disagree(self):
        chance = chance_of(28)
        for _ in range(60):
            stats = draw_stats(chance, Schema(2, (1, 1)), 8, 1)
            empty = [table for table in (0, 1) if not oracle.agreeing(stats, table)]
            if empty:
                self.assert_fault(needed_notes, (stats,), Disagrees, {"index": empty[0]})
            else:
                self.assertEqual(sorted(needed_notes(stats)), needed_notes(stats))
