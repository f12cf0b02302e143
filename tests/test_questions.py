"""[30] Questions."""

from itertools import product

from surelyplan.errors import BadNotes, BadQuantity, BadTable, TooLarge
from surelyplan.questions import Asked, ask, best_questions, fewest_questions, left_after
from surelyplan.schemas import Schema
from surelyplan.statistics import Statistics
from tests import oracle, slow
from tests.checks import SCHEMA, STATS, Case, Fault, odd_except
from tests.random_cases import chance_of
from tests.test_weighing import draw_agreeing

FREE = Statistics(SCHEMA, [])
NONE = Statistics(SCHEMA, [("rows", 0, 3, 2)])
ONE = Statistics(SCHEMA, [("rows", 0, 0, 0), ("cell", 1, (0,), 4, 4), ("cell", 1, (1,), 2, 2)])
# Two cells with no row or one, and nothing else: four tables.
FOUR = Statistics(SCHEMA, [("value", 0, 0, 1, 0, 0), ("cell", 0, (0, 0), 0, 1), ("cell", 0, (0, 1), 0, 1)])
# One row in the first cell, or two, or another one in one of the other three cells: five tables.
SPREAD = Statistics(SCHEMA, [("rows", 0, 1, 2), ("cell", 0, (0, 0), 1, 9)])
ROWS, FIRST, SECOND = ("rows",), ("cell", (0, 0)), ("cell", (0, 1))
FOUR_TREE = (FIRST, {0: (SECOND, {0: None, 1: None}), 1: (SECOND, {0: None, 1: None})})
QUICK_TREE = (ROWS, {0: None, 1: (FIRST, {0: None, 1: None}), 2: None})
CELLS = oracle.cells(Schema(3, (2,)), 0)


def nine_cells(bounds, more=()):
    """Statistics about a table with nine cells, with bounds of some cells and 0 rows in the others, and its tables."""
    schema = Schema(3, (2,))
    every = [bounds.get(at, (0, 0)) for at in range(9)]
    stats = Statistics(schema, [("cell", 0, cell) + ends for cell, ends in zip(CELLS, every)] + list(more))
    return stats, oracle.agreeing(stats, 0, product(*[range(low, high + 1) for low, high in every]))


def values_for(stats, table, tables):
    return [oracle.values_of(stats.schema, table, quantity, tables) for quantity in oracle.quantities(stats.schema, table)]


def least_height(stats, table, tables):
    return slow.tree_heights(values_for(stats, table, tables), frozenset(range(len(tables))), {})


def height_of(tree):
    return 0 if tree is None else 1 + max(height_of(part) for part in tree[1].values())


def is_tree(stats, table, tree, tables):
    """Whether a tree asks until at most one table is left."""
    if len(tables) <= 1 or tree is None:
        return len(tables) <= 1 and tree is None
    quantity, parts = tree
    if quantity not in oracle.quantities(stats.schema, table):
        return False
    values = oracle.values_of(stats.schema, table, quantity, tables)
    if set(parts) != set(values):
        return False
    return all(is_tree(stats, table, parts[value], [t for t, v in zip(tables, values) if v == value]) for value in parts)


def all_trees(stats, table, tables, most):
    """All trees for some tables that are not higher than a number."""
    if len(tables) <= 1:
        return [None]
    found = []
    for quantity in oracle.quantities(stats.schema, table) if most > 0 else []:
        values = oracle.values_of(stats.schema, table, quantity, tables)
        parts = {value: [t for t, v in zip(tables, values) if v == value] for value in sorted(set(values))}
        choices = [all_trees(stats, table, parts[value], most - 1) for value in parts]
        found += [(quantity, dict(zip(parts, chosen))) for chosen in product(*choices)]
    return found


def copy_of(tree):
    return None if tree is None else (tree[0], {value: copy_of(part) for value, part in tree[1].items()})


class Left(Case):

    def check(self, stats, table):
        tables = oracle.agreeing(stats, table)
        quantities = oracle.quantities(stats.schema, table)
        most = []
        for quantity, values in zip(quantities, values_for(stats, table, tables)):
            wanted = [(value, values.count(value)) for value in sorted(set(values))]
            self.assertEqual(wanted, list(left_after(stats, table, quantity).items()))
            most.append(max([many for _, many in wanted], default=0))
        best = [quantity for quantity, many in zip(quantities, most) if many == min(most)]
        self.assertEqual(best, best_questions(stats, table))
        return len(best) < len(quantities)

    def test_against_a_list_of_all_tables(self):
        chance = chance_of(100)
        done, differ = 0, 0
        while done < 60:
            schema = (Schema(2, (2, 1)), Schema(3, (1, 1)), Schema(2, (1, 2)))[done % 3]
            stats, _ = draw_agreeing(chance, schema, chance.randint(3, 14), chance.randint(0, 4))
            table = chance.randrange(2)
            if len(oracle.agreeing(stats, table)) <= 3000:
                differ += self.check(stats, table)
                done += 1
        self.assertTrue(differ > 20)

    def test_no_table_and_one_table(self):
        for quantity in oracle.quantities(SCHEMA, 0):
            self.assertEqual({}, left_after(NONE, 0, quantity))
            self.assertEqual({0: 1}, left_after(ONE, 0, quantity))
        self.assertEqual(oracle.quantities(SCHEMA, 0), best_questions(NONE, 0))
        self.assertEqual(oracle.quantities(SCHEMA, 0), best_questions(ONE, 0))
        # A table with which no counts agree says nothing of the other one.
        self.assertEqual(19, len(left_after(NONE, 1, ROWS)))

    def test_the_order_of_quantities(self):
        wanted = [("value", 0, 0), ("value", 0, 1), ("value", 0, 2), ("cell", (0,)), ("cell", (1,)), ("cell", (2,))]
        stats = Statistics(Schema(3, (1,)), [("rows", 0, 13, 14), ("cell", 0, (0,), 0, 9)])
        self.assertEqual(wanted, best_questions(stats, 0))
        # Each quantity that is not always 0 leaves at most two of the four tables.
        wanted = [ROWS, ("value", 0, 0), ("value", 1, 0), ("value", 1, 1), FIRST, SECOND]
        self.assertEqual(wanted, best_questions(FOUR, 0))

    def test_limit_of_3000(self):
        schema = Schema(2, (2,))
        cells = oracle.cells(schema, 0)
        within = Statistics(schema, [("cell", 0, cells[0], 0, 2)])
        self.assertEqual({0: 1000, 1: 1000, 2: 1000}, left_after(within, 0, ("cell", cells[0])))
        self.assertEqual({count: 300 for count in range(10)}, left_after(within, 0, ("cell", cells[3])))
        wanted = {quantity: max(left_after(within, 0, quantity).values()) for quantity in oracle.quantities(schema, 0)}
        best = [quantity for quantity in wanted if wanted[quantity] == min(wanted.values())]
        self.assertEqual(best, best_questions(within, 0))
        # 55 times 55 tables are 3025.
        beyond = Statistics(schema, [("value", 0, 0, 0, 0, 9), ("value", 0, 0, 1, 0, 9)])
        self.assertEqual(55 * 55, len(oracle.agreeing(beyond, 0)))
        for quantity in oracle.quantities(schema, 0):
            self.assert_fault(left_after, (beyond, 0, quantity), TooLarge)
        self.assert_fault(best_questions, (beyond, 0), TooLarge)
        self.assertEqual(100, sum(left_after(FREE, 1, ROWS).values()))

    def test_limit_just_beyond(self):
        schema = Schema(2, (2,))
        notes = [("value", 0, 0, 0, 4, 10), ("value", 0, 0, 1, 1, 17), ("value", 0, 1, 1, 8, 18)]
        just = Statistics(schema, notes)
        self.assertEqual(3001, len(oracle.agreeing(just, 0)))
        self.assert_fault(left_after, (just, 0, ROWS), TooLarge)
        self.assert_fault(best_questions, (just, 0), TooLarge)


class Trees(Case):

    def check(self, stats, table):
        tables = oracle.agreeing(stats, table)
        least = least_height(stats, table, tables)
        self.assertEqual(least, fewest_questions(stats, table))
        told = ask(stats, table)
        self.assertEqual(least, height_of(told.tree))
        self.assertIs(is_tree(stats, table, told.tree, tables), True)
        self.assertIs(told.shows(stats, table), True)
        return least

    def test_lowest_trees_of_random_tables(self):
        chance = chance_of(101)
        heights = []
        while len(heights) < 60:
            schema = (Schema(2, (2, 1)), Schema(3, (1, 1)), Schema(2, (1, 2)))[len(heights) % 3]
            stats, _ = draw_agreeing(chance, schema, chance.randint(6, 14), chance.randint(1, 3), 4)
            table = chance.randrange(2)
            if 1 < len(oracle.agreeing(stats, table)) <= 25:
                heights.append(self.check(stats, table))
        self.assertTrue({1, 2, 3} <= set(heights), heights)

    def test_lowest_trees_of_nine_cells(self):
        chance = chance_of(102)
        heights = []
        while len(heights) < 25:
            bounds = {at: (low, low + 1) for at, low in enumerate(chance.choices((0, 0, 1, 8), k=chance.randint(3, 6)))}
            stats, tables = nine_cells(bounds, [("value", 0, 1, 1, 0, chance.randint(1, 9))])
            if 2 <= len(tables) <= 24:
                heights.append(fewest_questions(stats, 0))
                self.assertEqual(least_height(stats, 0, tables), heights[-1])
                told = ask(stats, 0)
                self.assertIs(is_tree(stats, 0, told.tree, tables), True)
                self.assertEqual((heights[-1], True), (height_of(told.tree), told.shows(stats, 0)))
        self.assertTrue({2, 3, 4} <= set(heights), heights)

    def test_branches_for_which_the_most_even_question_is_too_slow(self):
        notes = [
            ("cell", 0, (0, 2), 2, 3), ("cell", 0, (2, 1), 0, 2), ("rows", 0, 5, 5), ("value", 0, 0, 1, 2, 3),
            ("value", 0, 0, 2, 0, 1), ("value", 0, 1, 0, 0, 1), ("value", 0, 1, 1, 1, 2), ("value", 0, 1, 2, 3, 3),
        ]
        stats = Statistics(Schema(3, (2,)), notes)
        tables = oracle.agreeing(stats, 0, product((0, 1), range(3), (2, 3), (0, 1), range(3), *[(0, 1)] * 4))
        self.assertEqual((12, 4), (len(tables), least_height(stats, 0, tables)))
        told = ask(stats, 0)
        self.assertEqual((4, True), (height_of(told.tree), is_tree(stats, 0, told.tree, tables)))
        self.assertIs(told.shows(stats, 0), True)

    def test_all_trees_where_these_are_few(self):
        line = Statistics(Schema(2, (1,)), [("rows", 0, 3, 4), ("cell", 0, (0,), 2, 3)])
        for stats, least, many in ((FOUR, 2, 72), (STATS, 1, 4), (line, 2, 40), (SPREAD, 3, 2496)):
            tables = oracle.agreeing(stats, 0)
            self.assertEqual(least, self.check(stats, 0))
            self.assertEqual([], all_trees(stats, 0, tables, least - 1))
            trees = all_trees(stats, 0, tables, least)
            self.assertEqual(many, len(trees))
            self.assertIn(ask(stats, 0).tree, trees)
            self.assertEqual({True}, {Asked(tree).shows(stats, 0) for tree in trees})
            # Each tree below a question with one answer is right, but too high.
            for quantity, values in zip(oracle.quantities(stats.schema, 0), values_for(stats, 0, tables)):
                if len(set(values)) == 1:
                    higher = [(quantity, {values[0]: tree}) for tree in trees[::9]]
                    self.assertEqual({True}, {is_tree(stats, 0, tree, tables) for tree in higher})
                    self.assertEqual({False}, {Asked(tree).shows(stats, 0) for tree in higher})

    def test_a_question_with_one_answer_may_stand_where_there_is_room(self):
        first, second, third = FIRST, ("cell", (0, 1)), ("cell", (1, 0))
        short = (ROWS, {1: None, 2: (("cell", (1, 1)), {0: None, 1: None})})
        tree = (first, {1: (second, {0: (third, {0: short, 1: None}), 1: None}), 2: None})
        self.assertIs(Asked(tree).shows(SPREAD, 0), False)
        small = (second, {0: (ROWS, {1: None, 2: None}), 1: None})
        tree = (third, {0: (first, {1: small, 2: None}), 1: None})
        tables = oracle.agreeing(SPREAD, 0)
        self.assertIs(is_tree(SPREAD, 0, tree, tables), True)
        self.assertEqual(4, height_of(tree))
        self.assertIs(Asked(tree).shows(SPREAD, 0), False)
        room = [tree for tree in all_trees(SPREAD, 0, tables, 3) if "1: (('rows',), {2: (" in repr(tree)]
        self.assertTrue(room)
        self.assertEqual({True}, {Asked(tree).shows(SPREAD, 0) for tree in room})

    def test_no_table_and_one_table(self):
        for stats in (NONE, ONE):
            self.assertEqual((Asked(None), 0), (ask(stats, 0), fewest_questions(stats, 0)))
            self.assertIs(Asked(None).shows(stats, 0), True)
            for tree in ((ROWS, {0: None}), (ROWS, {}), (FIRST, {0: None}), FOUR_TREE):
                self.assertIs(Asked(tree).shows(stats, 0), False)
        self.assertEqual((Asked(None), 0), (ask(ONE, 1), fewest_questions(ONE, 1)))
        self.assertIs(Asked(None).shows(FOUR, 0), False)

    def test_limit_of_60(self):
        schema = Schema(2, (1, 2))
        for table, notes, many in (
            (0, [("cell", 0, (0,), 0, 5)], 60), (0, [("rows", 0, 2, 10)], 61), (0, [("rows", 0, 1, 10)], 63),
            (0, [("rows", 0, 0, 9)], 55), (1, [("rows", 1, 0, 3), ("cell", 1, (0, 0), 0, 9)], 35), (1, [("rows", 1, 0, 4)], 70),
            (1, [("cell", 1, (0, 0), 0, 5), ("cell", 1, (0, 1), 0, 9), ("value", 1, 0, 1, 0, 0)], 60),
            (1, [("value", 1, 0, 1, 0, 0), ("rows", 1, 2, 10)], 61),
        ):
            stats = Statistics(schema, notes)
            self.assertEqual(many, len(oracle.agreeing(stats, table)))
            if many <= 60:
                self.check(stats, table)
            else:
                for call in (ask, fewest_questions, Asked(None).shows):
                    self.assert_fault(call, (stats, table), TooLarge)
                self.assertEqual(many, sum(left_after(stats, table, ROWS).values()))

    def test_hard_tables_answer_quickly(self):
        schema = Schema(3, (2,))
        few = [("value", 0, column, value, 3, 3) for column in (0, 1) for value in range(3)]
        hard = [("cell", 0, (1, 2), 2, 11), ("cell", 0, (2, 0), 5, 10), ("cell", 0, (1, 1), 0, 6), ("value", 0, 0, 0, 0, 3)]
        hard += [("value", 0, 0, 1, 1, 3), ("value", 0, 1, 2, 0, 3), ("value", 0, 1, 1, 0, 2), ("cell", 0, (1, 0), 0, 2)]
        for notes, many in (
            ([("rows", 0, 0, 2)], 55), ([("rows", 0, 79, 81)], 55), (few, 55), (hard + [("rows", 0, 8, 9)], 43),
            ([("cell", 0, cell, 0, 1) for cell in CELLS[:8]] + [("cell", 0, CELLS[8], 0, 0), ("rows", 0, 3, 3)], 56),
        ):
            stats = Statistics(schema, notes)
            self.assertEqual(many, sum(left_after(stats, 0, ROWS).values()))
            told = ask(stats, 0)
            self.assertEqual(fewest_questions(stats, 0), height_of(told.tree))
            self.assertIs(told.shows(stats, 0), True)


class ShowsAsked(Case):

    def shown(self, tree, stats=FOUR):
        return Asked(tree).shows(stats, 0)

    def test_right_trees(self):
        for tree in (FOUR_TREE, QUICK_TREE, (SECOND, {1: (ROWS, {1: None, 2: None}), 0: (FIRST, {1: None, 0: None})})):
            self.assertIs(is_tree(FOUR, 0, tree, oracle.agreeing(FOUR, 0)), True)
            self.assertIs(self.shown(tree), True)

    def test_trees_that_are_too_high(self):
        high = (FIRST, {0: (SECOND, {0: None, 1: None}), 1: (("value", 0, 1), {0: (SECOND, {0: None, 1: None})})})
        self.assertIs(is_tree(FOUR, 0, high, oracle.agreeing(FOUR, 0)), True)
        self.assertIs(self.shown(high), False)
        tall = FOUR_TREE
        for _ in range(60):
            tall = (("cell", (1, 1)), {0: tall})
        self.assertIs(is_tree(FOUR, 0, tall, oracle.agreeing(FOUR, 0)), True)
        self.assertIs(self.shown(tall), False)
        self.assertIs(Asked(tall) == Asked(copy_of(tall)), True)

    def test_trees_that_end_too_early(self):
        for tree in (None, (FIRST, {0: None, 1: None}), (ROWS, {0: None, 1: None, 2: None}),
                     (FIRST, {0: (SECOND, {0: None, 1: None}), 1: None})):
            self.assertIs(self.shown(tree), False)

    def test_trees_that_go_on_too_long(self):
        for value in (0, 2):
            self.assertIs(self.shown((ROWS, {**QUICK_TREE[1], value: (ROWS, {value: None})})), False)
            self.assertIs(self.shown((ROWS, {**QUICK_TREE[1], value: (ROWS, {})})), False)

    def test_a_value_missing_or_too_many(self):
        for value in (0, 1, 2):
            fewer = {other: part for other, part in QUICK_TREE[1].items() if other != value}
            self.assertIs(self.shown((ROWS, fewer)), False)
            self.assertIs(self.shown((ROWS, {**fewer, value + 10: QUICK_TREE[1][value]})), False)
        for value in (-1, 3, 9):
            self.assertIs(self.shown((ROWS, {**QUICK_TREE[1], value: None})), False)
        for parts in ({0: None}, {1: None}, {0: None, 1: None, 2: None}, {}):
            self.assertIs(self.shown((ROWS, {0: None, 1: (FIRST, parts), 2: None})), False)

    def test_other_quantities(self):
        right = [quantity for quantity in oracle.quantities(SCHEMA, 0) if self.shown((quantity, QUICK_TREE[1]))]
        self.assertEqual([ROWS, ("value", 0, 0)], right)
        for quantity in (
            ("cell", (0,)), ("cell", (0, 2)), ("value", 0, 2), ("value", 2, 0), ("rows", 0), (), ("value", 0), ("cell", 0, 0),
            ("value", False, 0), ("value", 0, False), ("cells", (0, 0)), ("cell", (0, 0), 0), ("row",), ("cell", (False, 0)),
        ):
            self.assertIs(self.shown((quantity, QUICK_TREE[1])), False, quantity)
            self.assertIs(self.shown((quantity, FOUR_TREE[1])), False, quantity)
            self.assertIs(self.shown((FIRST, {0: FOUR_TREE[1][0], 1: (quantity, {0: None, 1: None})})), False)

    def test_true_is_not_1(self):
        self.assertIs(self.shown((ROWS, {0: None, True: QUICK_TREE[1][1], 2: None})), False)
        self.assertIs(self.shown((ROWS, {False: None, 1: QUICK_TREE[1][1], 2: None})), False)
        self.assertIs(self.shown((ROWS, {0: None, 1: (FIRST, {0: None, True: None}), 2: None})), False)

    def test_trees_for_other_statistics_and_tables(self):
        self.assertIs(Asked(FOUR_TREE).shows(STATS, 0), False)
        self.assertIs(ask(STATS, 0).shows(FOUR, 0), False)
        stats = Statistics(SCHEMA, FOUR.notes + (("rows", 1, 1, 1),))
        self.assertIs(ask(stats, 1).shows(stats, 0), False)
        self.assertIs(ask(stats, 1).shows(stats, 1), True)

    def test_attributes(self):
        tree = copy_of(FOUR_TREE)
        told = Asked(tree)
        tree[1][0][1].clear()
        tree[1].clear()
        self.assertEqual(FOUR_TREE, told.tree)
        self.assertIs(told.shows(FOUR, 0), True)
        told.tree[1][0][1].clear()
        self.assertIs(told.shows(FOUR, 0), False)
        told.tree = QUICK_TREE
        self.assertIs(told.shows(FOUR, 0), True)
        told.tree = None
        self.assertIs(told.shows(FOUR, 0), False)

    def test_results_are_new(self):
        self.assert_new_each_time(lambda: ask(FOUR, 0), lambda told: told.tree[1].clear())
        self.assert_new_each_time(lambda: left_after(FOUR, 0, ROWS), lambda left: left.clear())
        self.assert_new_each_time(lambda: best_questions(FOUR, 0), lambda found: found.pop())

    def test_equality(self):
        turned = (FIRST, {1: FOUR_TREE[1][1], 0: FOUR_TREE[1][0]})
        self.assert_equality((Asked(FOUR_TREE), Asked(turned)), (Asked(None), Asked(QUICK_TREE), Asked((FIRST, {}))))
        self.assert_equality((Asked(None), Asked(None)), (Asked(FOUR_TREE),))


class QuestionErrors(Case):

    def test_errors(self):
        odd = [value for value in odd_except() if value.__class__ is not int] + [2, -1]
        for call, good in (
            (left_after, (FOUR, 0, ROWS)), (best_questions, (FOUR, 0)), (ask, (FOUR, 0)), (fewest_questions, (FOUR, 0)),
            (Asked(FOUR_TREE).shows, (FOUR, 0)),
        ):
            faults = [Fault(BadNotes, {0: None}, index=None), Fault(BadTable, {1: 2})]
            faults += [Fault(BadQuantity, {2: None})] if len(good) == 3 else []
            self.assert_error_order(call, good, faults)
            self.assert_error_order(call, good, faults[1:] + [Fault(TooLarge, {0: FREE})])
            self.assert_refused(call, good, 0, odd_except(Statistics), BadNotes, index=None)
            self.assert_refused(call, good, 1, odd, BadTable)

    def test_wrong_quantities(self):
        wrong = [value for value in odd_except() if value != ("rows",)] + [
            ["rows"], ("rows", 0), ("value", 0), ("value", 2, 0), ("value", 0, 2), ("value", True, 0), ("value", 0, False),
            ("cell", (0,)), ("cell", [0, 0]), ("cell", (0, 2)), ("cell", (0, False)), ("cell", 0, 0), ("row",), "rows",
        ]
        self.assert_refused(left_after, (FOUR, 0, ROWS), 2, wrong, BadQuantity)
        self.assert_refused(left_after, (FOUR, 1, ROWS), 2, [("value", 1, 0), ("cell", (0, 0))], BadQuantity)
        # A table with which no counts agree is none of the errors here.
        self.assert_fault(left_after, (NONE, 0, None), BadQuantity)
