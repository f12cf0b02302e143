"""[17] Sorting."""

from itertools import combinations

from surelyplan.errors import BadMemory, BadRows
from surelyplan.sorting import Merging, best_merging, first_runs, least_moved, sort_cost, sort_rows
from tests.checks import Case, Fault, odd_except
from tests.random_cases import chance_of

ROWS = [5, 2, 9, 4, 1, 7, 3]
WRONG_ROWS = [
    [0] * 61, (0,) * 61, [10000], [-1], [True], [False, 1], [None], ["1"], [[1]], [(1,)], (1, None), [10 ** 30], [5, 2, 10000], [b"1"],
]
WRONG_LENGTHS = [[], (), [1] * 13, (1,) * 13, [0], [61], [-1], [True], [5, True], [None], ["5"], [[5]], [5, 61], [5, 0], [(5,)], [3, 4, None]]
MEMORIES = (2, 9, 0, -3, 10 ** 20)


def least(lengths, fan, kept):
    """The least number of moved rows, by all orders of merges."""
    lengths = tuple(sorted(lengths))
    if len(lengths) == 1:
        return 0
    if lengths not in kept:
        found = []
        for many in range(2, min(fan, len(lengths)) + 1):
            for places in combinations(range(len(lengths)), many):
                total = sum(lengths[place] for place in places)
                rest = [length for place, length in enumerate(lengths) if place not in places]
                found.append(total + least(rest + [total], fan, kept))
        kept[lengths] = min(found)
    return kept[lengths]


def by_dummies(lengths, fan):
    """The least number of moved rows: with empty runs, so that each merge takes as many as are allowed."""
    runs = sorted(lengths)
    while len(runs) > 1 and (len(runs) - 1) % (fan - 1):
        runs = [0] + runs
    moved = 0
    while len(runs) > 1:
        moved += sum(runs[:fan])
        runs = sorted(runs[fan:] + [sum(runs[:fan])])
    return moved


def runs_in(tree):
    return [run for part in tree for run in runs_in(part)] if isinstance(tree, tuple) else [tree]


def moved_by(tree, lengths):
    if not isinstance(tree, tuple):
        return 0
    return sum(lengths[run] for run in runs_in(tree)) + sum(moved_by(part, lengths) for part in tree)


def fans(tree):
    return [len(tree)] + [fan for part in tree for fan in fans(part)] if isinstance(tree, tuple) else []


class Rows(Case):

    def test_first_runs(self):
        self.assertEqual([[2, 5, 9], [1, 4, 7], [3]], first_runs(ROWS, 3))
        self.assertEqual([[1, 2, 3, 4, 5, 7, 9]], first_runs(ROWS, 7))
        self.assertEqual([[1, 2, 3, 4, 5, 7, 9]], first_runs(tuple(ROWS), 8))
        for memory in range(3, 9):
            self.assertEqual([], first_runs([], memory))
            self.assertEqual([[4]], first_runs((4,), memory))
        self.assertEqual([[9999] * 3] * 20, first_runs([9999] * 60, 3))

    def test_runs_of_sixty_rows(self):
        chance = chance_of(170)
        for memory in range(3, 9):
            rows = [chance.randint(0, 9999) for _ in range(60)]
            runs = first_runs(rows, memory)
            self.assertEqual([memory] * (60 // memory) + [60 % memory] * (60 % memory > 0), [len(run) for run in runs])
            self.assertEqual([sorted(rows[at:at + memory]) for at in range(0, 60, memory)], runs)
            self.assertEqual((sorted(rows), sort_cost(60, memory)), sort_rows(rows, memory))
            self.assertEqual((sorted(rows), sort_cost(60, memory)), sort_rows(tuple(rows), memory))

    def test_sorting(self):
        chance = chance_of(171)
        for many in range(61):
            for memory in range(3, 9):
                rows = [chance.randint(0, chance.choice((2, 9999))) for _ in range(many)]
                told = sort_rows(rows, memory)
                self.assertIsInstance(told, tuple)
                self.assertEqual((sorted(rows), sort_cost(many, memory)), told)
                runs = [len(run) for run in first_runs(rows, memory)]
                self.assertEqual(many + by_dummies(runs, memory - 1), sort_cost(many, memory))
                if 1 <= len(runs) <= 12:
                    self.assertEqual(many + least_moved(runs, memory - 1), sort_cost(many, memory))

    def test_some_costs(self):
        for memory in range(3, 9):
            self.assertEqual([0] + list(range(1, memory + 1)), [sort_cost(many, memory) for many in range(memory + 1)])
            self.assertEqual(2 * memory + 2, sort_cost(memory + 1, memory))
        self.assertEqual(([], 0), sort_rows([], 5))
        self.assertEqual(([0, 0], 2), sort_rows([0, 0], 3))
        # Twenty runs of three rows, two at once: 12 of them are four merges deep, 8 of them five.
        self.assertEqual(60 + 3 * (12 * 4 + 8 * 5), sort_cost(60, 3))
        # Eight runs, seven at once: two of them are merged first.
        self.assertEqual(60 + 60 + 4 + 8, sort_cost(60, 8))

    def test_results_are_new_and_arguments_stay(self):
        rows = [3, 2, 1]
        self.assert_new_each_time(lambda: first_runs(rows, 3), lambda runs: runs[0].clear())
        self.assert_new_each_time(lambda: sort_rows(rows, 3), lambda told: told[0].clear())
        self.assertEqual([3, 2, 1], rows)


class Merges(Case):

    def check(self, lengths, fan):
        told = best_merging(lengths, fan)
        moved = least_moved(lengths, fan)
        self.assertEqual(moved, moved_by(told.tree, lengths))
        self.assertEqual(list(range(len(lengths))), sorted(runs_in(told.tree)))
        self.assertTrue(all(2 <= many <= fan for many in fans(told.tree)))
        self.assertIs(told.shows(lengths, fan), True)
        return moved

    def test_against_all_orders(self):
        chance = chance_of(172)
        for case in range(250):
            lengths = [chance.randint(1, chance.choice((3, 60))) for _ in range(chance.randint(1, 7))]
            fan = chance.randint(2, 7)
            lengths = tuple(lengths) if case % 2 else lengths
            self.assertEqual(least(lengths, fan, {}), self.check(lengths, fan), (lengths, fan))

    def test_up_to_twelve_runs(self):
        chance = chance_of(173)
        for many in range(1, 13):
            for fan in range(2, 8):
                for _ in range(5):
                    lengths = [chance.randint(1, 60) for _ in range(many)]
                    self.assertEqual(by_dummies(lengths, fan), self.check(lengths, fan))
        for lengths, fan in (([1, 2, 4, 8, 16, 32, 60, 60], 3), ([7, 7, 3, 3, 3, 1, 1, 1], 3), ([60, 1, 60, 1, 60, 1, 60, 1], 2), ([5] * 8, 4)):
            self.assertEqual(least(lengths, fan, {}), self.check(lengths, fan))

    def test_one_run(self):
        for fan in range(2, 8):
            self.assertEqual((0, Merging(0)), (least_moved([4], fan), best_merging((60,), fan)))
        for tree, right in ((0, True), (1, False), (-1, False), (False, False), (True, False), ((0,), False), ((), False), ((0, 0), False), (((0,),), False)):
            self.assertIs(Merging(tree).shows([4], 2), right, tree)

    def test_shows(self):
        lengths = [5, 1, 3, 1]
        for tree, fan, right in [
            ((0, (2, (1, 3))), 2, True), (((2, (3, 1)), 0), 2, True), (((0, 2), (1, 3)), 2, False), ((0, (1, (2, 3))), 2, False),
            ((0, (2, (1, 3))), 3, False), ((0, 2, (1, 3)), 3, True), ((0, (1, 3), 2), 3, True), ((0, 1, 2, 3), 3, False), ((0, 1, 2, 3), 4, True),
            ((0, 1, 2, 3), 7, True), ((0, 2, (1, 3)), 4, False), ((0, 2, (1, 3)), 2, False), ((0, (2, 1)), 2, False), ((0, (2, (1, 1))), 2, False),
            ((0, (2, (1, (3, 1)))), 2, False), ((0, (2, (1, 4))), 2, False), ((0, (2, (1, -1))), 2, False), ((0, (2, (True, 3))), 2, False),
            ((False, (2, (1, 3))), 2, False), ((0, (2, ((1,), 3))), 2, False), (((0, (2, (1, 3))),), 2, False), (0, 2, False), ((), 2, False),
            ((0, (2, ((1, 3), ()))), 3, False), ((0, 2), 2, False), (3, 4, False), (((0, 2, (1, 3)),), 3, False),
        ]:
            self.assertIs(Merging(tree).shows(lengths, fan), right, (tree, fan))
        deep = 0
        for _ in range(100000):
            deep = (deep, 1)
        self.assertIs(Merging(deep).shows(lengths, 2), False)

    def test_current_tree(self):
        told = best_merging([5, 1, 3, 1], 2)
        told.tree = ((0, 2), (1, 3))
        self.assertIs(told.shows([5, 1, 3, 1], 2), False)
        told.tree = (0, (2, (1, 3)))
        self.assertIs(told.shows([5, 1, 3, 1], 2), True)
        told.tree = 0
        self.assertIs(told.shows([9], 5), True)

    def test_equality(self):
        self.assert_equality((Merging((0, (1, 2))), Merging((0, (1, 2)))), [Merging((0, (2, 1))), Merging(0), Merging(())])
        self.assert_equality((Merging(0), Merging(0)), [Merging(1), Merging((0, 1))])


class Errors(Case):

    def test_order(self):
        self.assert_error_order(first_runs, (ROWS, 3), [Fault(BadRows, {0: None}), Fault(BadMemory, {1: 2})])
        self.assert_error_order(sort_rows, (ROWS, 3), [Fault(BadRows, {0: None}), Fault(BadMemory, {1: 2})])
        self.assert_error_order(sort_cost, (7, 3), [Fault(BadRows, {0: 61}), Fault(BadMemory, {1: 2})])
        for call in (best_merging, least_moved, Merging(0).shows):
            self.assert_error_order(call, ([5, 1], 2), [Fault(BadRows, {0: []}), Fault(BadMemory, {1: 8})])

    def test_wrong_arguments(self):
        for call in (first_runs, sort_rows):
            self.assert_refused(call, (ROWS, 3), 0, WRONG_ROWS + [value for value in odd_except() if value not in ([], ())], BadRows)
            self.assert_refused(call, (ROWS, 3), 1, odd_except() + list(MEMORIES), BadMemory)
        self.assert_refused(sort_cost, (7, 3), 0, odd_except() + [-1, 61, 10 ** 20], BadRows)
        self.assert_refused(sort_cost, (7, 3), 1, odd_except() + list(MEMORIES), BadMemory)
        for call in (best_merging, least_moved, Merging(0).shows):
            self.assert_refused(call, ([5, 1], 2), 0, WRONG_LENGTHS + odd_except(), BadRows)
            self.assert_refused(call, ([5, 1], 2), 1, odd_except() + [1, 8, 0, -2, 10 ** 20], BadMemory)
        self.assertEqual([[0]], first_runs([0], 8))
        # Six of twelve runs are merged first, then seven are left.
        self.assertEqual(360 + 720, least_moved([60] * 12, 7))
