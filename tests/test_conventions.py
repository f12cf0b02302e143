"""[1] The conventions, for all calls, and the names of the interface."""

import inspect
from importlib import import_module

from surelyplan import choosing, questions
from surelyplan.blocks import FirstTorn, SurelyFirst
from surelyplan.blocks import block_ends, blocks_to_read, judge_first, rows_from_blocks, run_count, stored_blocks, zones
from surelyplan.choosing import Calmest, CostEnds, Surely, Torn, cost_ends, find_calmest, judge_plans, least_regret
from surelyplan.choosing import reach_costs, regret, regret_after
from surelyplan.copies import Loads, can_run, greatest_load, loads_with_copy, read_evenly, stopping_sets, surely_greatest_load
from surelyplan.desks import Desk
from surelyplan.errors import PlanError
from surelyplan.expressions import columns, evaluate, expression_of
from surelyplan.limits import least_moves, memory_needed, order_moves, step_moves
from surelyplan.plans import Cheapest, Plan, all_plans, cheapest, cost, count_plans, least_cost, step_costs
from surelyplan.polynomials import Equal, Unequal, are_equal, degree, judge_equal, polynomials, value_on
from surelyplan.proofs import Proof, count_reached, fewest_steps, prove
from surelyplan.queries import Query, answer, answer_size, assignments
from surelyplan.questions import Asked, ask, fewest_questions, left_after
from surelyplan.renaming import Apart, Renamed, judge_renamed, same_counts
from surelyplan.rules import possible_steps, rewrite
from surelyplan.running import Run, run_through
from surelyplan.schemas import Data, Schema
from surelyplan.shipping import Shipped, most_moved, moved, run_apart, ship, ship_surely
from surelyplan.sizes import Covered, SizeEnds, cover, cover_bound, reach_sizes, size_ends
from surelyplan.sorting import Merging, best_merging, first_runs, least_moved, sort_cost, sort_rows
from surelyplan.statistics import Against, Agrees, Crossed, Statistics
from surelyplan.statistics import agree, all_tables, broken_notes, count_tables, has_tables, judge_table
from surelyplan.texts import data_text, notes_text, query_text, read_data, read_notes, read_query, read_schema, schema_text
from surelyplan.weighing import Weighed, follows, needed_notes, tightest, weigh, weighed_ends
from surelyplan.within import Beyond, Leanest, Within
from surelyplan.within import fewest_atoms, frozen, is_within, judge_within, leanest, leanest_query, show_same
from surelyplan.words import Word, split_words
from tests.checks import DATA, SCHEMA, STATS, Case

FREE = Query(SCHEMA, ((0, (0, 1)), (1, (1,))), (), (0,))
FILTERED = Query(SCHEMA, ((0, (0, 1)), (0, (0, 2))), ((0, (1,)),), (0,))
NARROW = Statistics(SCHEMA, STATS.notes + (("cell", 1, (0,), 1, 1), ("cell", 1, (1,), 0, 2)))
NONE = Statistics(SCHEMA, [("rows", 1, 3, 2)])
WEIGHTS = (5, 1, 1, 5)
LOW = {("top", 0): 1}
PLAN, CROOKED = Plan((0, 1), ("scan", "left")), Plan((0,), ("left",))
NAMED = {(PLAN.order, PLAN.ways): DATA}
TRIP = (2, (0, None), (1, 0))
WAYS = (("split", 1),)
JOIN, TWICE = ("join", ("table", 0), ("table", 1)), ("both", ("table", 1), ("table", 1))
LOWER, WRONG = ("filter", 0, (0, 1), ("filter", 0, (0,), ("table", 1))), ("join", ["table", 0], ("table", 1))
HOMES = ((0, 1), (1, 2))
ONLY = Query(SCHEMA, ((0, (0, 0)),), (), ())
TORN = Statistics(SCHEMA, [("rows", 0, 0, 9)])
EXACT = Statistics(SCHEMA, [("cell", table, cell, count, count) for table in (0, 1) for cell, count in zip(SCHEMA.cells(table), DATA.tables[table])])
TURNED = (SCHEMA, ("join", ("table", 0), ("both", LOWER, LOWER[3])), ("join", ("table", 0), ("both", LOWER[3], LOWER)))
TERMS = {(0,): {((1, (0,)),): 2}, (1,): {((1, (1,)),): 2}}
TREE = (("cell", (0, 0)), {0: None, 1: None})


def run_begun():
    """A run in which some rows wait and some have been told."""
    run = Run(FREE, DATA, (0, 1))
    for _ in range(3):
        run.step()
    return run


def desk_begun():
    desk = Desk(STATS, DATA)
    desk.note(("rows", 1, 0, 9))
    desk.put(1, (0,))
    return desk


# All calls of the package with arguments of which most are right and some are wrong.
CALLS = [
    (Schema, [(2, (1, 2)), (7, (1,)), (2, [1])]),
    (Data, [(SCHEMA, [[1, 2, 3, 4], [5, 6]]), (SCHEMA, [[1, 2, 3, 4], [5, 10]]), (SCHEMA, [[]])]),
    (Query, [(SCHEMA, ((0, (0, 1)),), ((0, (1,)),), (1,)), (SCHEMA, [], [], [])]),
    (Statistics, [(SCHEMA, [("rows", 0, 1, 2)]), (SCHEMA, [("rows", 0, 1, 2), ["rows", 0, 1, 2]])]),
    (SCHEMA.cells, [(0,), (5,)]), (DATA.rows, [(0,), (5,)]), (DATA.filled, [(0,), (5,)]),
    (DATA.with_value, [(0, 1, 1), (0, 1, 2)]), (DATA.count_of, [(0, (0, 1)), (0, [0, 1])]),
    (FREE.variables, [()]), (FREE.allowed, [(0,)]), (FILTERED.allowed, [(0,)]),
    (answer, [(FREE, DATA), (FILTERED, DATA), (FREE, None)]), (answer_size, [(FREE, DATA), (FILTERED, DATA)]),
    (assignments, [(FREE, DATA), (FILTERED, DATA)]),
    (judge_table, [(STATS, 0), (NONE, 1), (STATS, 2)]), (has_tables, [(STATS,), (NONE,)]),
    (broken_notes, [(STATS, DATA), (NONE, DATA)]), (agree, [(STATS, DATA), (NONE, DATA)]),
    (all_tables, [(STATS, 0), (NONE, 1), (NONE, 0)]), (count_tables, [(STATS, 0), (NONE, 0)]),
    (Agrees([0, 2, 1, 0]).shows, [(STATS, 0), (STATS, 1)]), (Crossed(("rows",)).shows, [(NONE, 1), (NONE, 0)]),
    (Against([("top", 0)]).shows, [(STATS, 0), (STATS, 1)]),
    (weigh, [(STATS, 0, WEIGHTS), (STATS, 0, list(WEIGHTS)), (NONE, 0, WEIGHTS)]),
    (weighed_ends, [(STATS, 0, WEIGHTS)]), (tightest, [(STATS, 0, ("value", 0, 1)), (STATS, 0, ["rows"])]),
    (follows, [(STATS, ("rows", 0, 1, 9)), (STATS, ["rows", 0, 1, 9])]), (needed_notes, [(STATS,), (NONE,)]),
    (Weighed, [((1, 2), [3], dict(LOW), {})]), (weigh(STATS, 0, WEIGHTS).shows, [(STATS, 0, WEIGHTS)]),
    (size_ends, [(NARROW, FREE), (STATS, FREE)]), (reach_sizes, [(NARROW, FREE), (STATS, FREE)]),
    (cover, [(NARROW, FREE), (NONE, FREE)]), (cover_bound, [(NARROW, FREE)]),
    (reach_sizes(NARROW, FREE).shows, [(NARROW, FREE)]), (Covered([0]).shows, [(NARROW, FREE), (NONE, FREE)]),
    (judge_within, [(FREE, FREE), (FREE, FILTERED)]), (is_within, [(FREE, FREE)]), (show_same, [(FREE, FREE)]),
    (frozen, [(FREE,), (FILTERED,)]), (leanest, [(FREE,)]), (leanest_query, [(FREE,)]), (fewest_atoms, [(FREE,)]),
    (Within([0, 1]).shows, [(FREE, FREE)]), (Beyond(DATA).shows, [(FREE, FREE)]), (Leanest([0], [1]).shows, [(FREE,)]),
    (judge_renamed, [(FREE, FREE), (FREE, FILTERED)]), (same_counts, [(FREE, FREE)]),
    (Renamed([0, 1]).shows, [(FREE, FREE)]), (Apart(DATA).shows, [(FREE, FREE)]),
    (Plan, [([0, 1], ["scan", "left"])]), (all_plans, [(FREE,), (None,)]), (count_plans, [(FREE,)]),
    (cost, [(FREE, PLAN, DATA), (FREE, CROOKED, DATA)]), (step_costs, [(FREE, PLAN, DATA), (FILTERED, PLAN, DATA)]),
    (cheapest, [(FREE, DATA), (FILTERED, DATA)]), (least_cost, [(FREE, DATA)]), (Cheapest, [(PLAN, {(): 0, (0,): 1})]),
    (cheapest(FREE, DATA).shows, [(FREE, DATA), (FILTERED, DATA)]),
    (Run, [(FREE, DATA, (0, 1)), (FREE, DATA, [0, 1])]), (run_through, [(FREE, DATA, (1, 0)), (FREE, DATA, (0,))]),
    (run_begun().waiting, [()]), (run_begun().told, [()]), (run_begun().rest, [()]), (run_begun().seen, [()]),
    (run_begun().branch, [()]), (run_begun().is_done, [()]), (run_begun().change_order, [((0,),)]),
    (regret, [(FREE, PLAN, DATA), (FREE, CROOKED, DATA)]), (cost_ends, [(NARROW, FREE, PLAN), (NARROW, FREE, CROOKED)]),
    (reach_costs, [(NARROW, FREE, PLAN), (STATS, FREE, PLAN)]), (judge_plans, [(NARROW, FREE), (STATS, FREE)]),
    (find_calmest, [(NARROW, FREE)]), (least_regret, [(NARROW, FREE), (NONE, FREE)]),
    (regret_after, [(NARROW, FREE, 0, 3), (NARROW, FREE, 0, 9)]), (choosing.best_questions, [(NARROW, FREE)]),
    (CostEnds(DATA, DATA).shows, [(NARROW, FREE, PLAN)]), (Surely(PLAN).shows, [(NARROW, FREE)]), (Surely, [(PLAN,)]),
    (Torn(NAMED).shows, [(NARROW, FREE)]), (Torn, [(NAMED,)]), (Calmest, [(PLAN, 2, NAMED)]),
    (find_calmest(NARROW, FREE).shows, [(NARROW, FREE), (STATS, FREE)]),
    (ship, [(FREE, DATA) + TRIP, (FILTERED, DATA) + TRIP, (FREE, DATA, 4, (0, 0), (0, 1))]),
    (moved, [(FREE, DATA) + TRIP + (WAYS,), (FREE, DATA) + TRIP + ([],)]), (run_apart, [(FREE, DATA) + TRIP + (WAYS,)]),
    (ship_surely, [(NARROW, FREE) + TRIP, (STATS, FREE) + TRIP]), (most_moved, [(NARROW, FREE) + TRIP + (WAYS,)]),
    (Shipped, [([("copy",)], {(1, None): 0})]), (ship(FREE, DATA, *TRIP).shows, [(FREE, DATA) + TRIP]),
    (ship_surely(NARROW, FREE, *TRIP).shows_surely, [(NARROW, FREE) + TRIP]),
    (Desk, [(STATS, DATA), (NONE, DATA)]), (desk_begun().branch, [()]), (desk_begun().drop, [(9,)]),
    (lambda: desk_begun().known, [()]), (lambda: desk_begun().now, [()]), (lambda: desk_begun().journal, [()]),
    (split_words, [("show a 12",), ("a A",), (None,)]), (Word, [("word", "a", 0)]),
    (schema_text, [(SCHEMA,)]), (data_text, [(DATA,), (None,)]), (notes_text, [(STATS,)]), (query_text, [(FREE,), (FILTERED,)]),
    (read_schema, [("values 2 widths 1",), ("values 2",)]), (read_data, [(SCHEMA, "r: nothing; s: (1) has 2")]),
    (read_notes, [(SCHEMA, "rows of r: 0 to 1"), (SCHEMA, "rows of t: 0 to 1")]),
    (read_query, [(SCHEMA, "show a from s(a) where a in {}"), (SCHEMA, "show b from s(a)")]),
    (left_after, [(STATS, 0, ("rows",)), (STATS, 0, ["rows"])]), (questions.best_questions, [(STATS, 0), (STATS, 2)]),
    (ask, [(STATS, 0), (NONE, 1), (NONE, 0)]), (fewest_questions, [(STATS, 0)]), (Asked, [(TREE,), (None,)]),
    (Asked(TREE).shows, [(STATS, 0), (STATS, 1)]),
    (columns, [(SCHEMA, JOIN), (SCHEMA, WRONG)]), (evaluate, [(DATA, JOIN), (DATA, TWICE), (DATA, WRONG)]),
    (expression_of, [(FREE,), (FILTERED,), (None,)]), (polynomials, [(SCHEMA, JOIN), (SCHEMA, TWICE), (SCHEMA, WRONG)]),
    (degree, [(SCHEMA, JOIN)]), (value_on, [(TERMS[(0,)], DATA), ({}, DATA)]), (Equal, [(TERMS,)]), (Unequal, [(DATA,)]),
    (judge_equal, [(SCHEMA, TWICE, TWICE), (SCHEMA, TWICE, LOWER), (SCHEMA, TWICE, JOIN)]), (are_equal, [(SCHEMA, JOIN, JOIN)]),
    (Equal(TERMS).shows, [(SCHEMA, TWICE, TWICE), (SCHEMA, TWICE, LOWER)]), (Unequal(DATA).shows, [(SCHEMA, TWICE, LOWER)]),
    (rewrite, [(SCHEMA, JOIN, "swap join", ()), (SCHEMA, LOWER, "all values", ()), (SCHEMA, JOIN, "collect", ()), (SCHEMA, JOIN, [], [])]),
    (possible_steps, [(SCHEMA, JOIN), (SCHEMA, LOWER), (SCHEMA, WRONG)]),
    (prove, [(SCHEMA, LOWER, LOWER[3], 2), (SCHEMA, LOWER[3], LOWER, 2), (SCHEMA, LOWER, LOWER, 5)]),
    (fewest_steps, [(SCHEMA, LOWER, LOWER[3], 2)]), (count_reached, [(SCHEMA, LOWER, 2), (SCHEMA, JOIN, True)]),
    (can_run, [(FREE, 3, HOMES, ()), (FREE, 3, HOMES, (0, 1)), (FREE, 3, HOMES, [])]), (stopping_sets, [(FREE, 3, HOMES), (FREE, 0, HOMES)]),
    (read_evenly, [(FREE, DATA, 3, HOMES, ()), (FILTERED, DATA, 3, HOMES, (1,)), (FREE, DATA, 3, HOMES, (0, 1))]),
    (greatest_load, [(FREE, DATA, 3, HOMES, ())]), (surely_greatest_load, [(STATS, FREE, 3, HOMES, ()), (NONE, FREE, 3, HOMES, ())]),
    (loads_with_copy, [(FREE, DATA, 3, HOMES), (FREE, DATA, 2, HOMES)]), (Loads, [([{0: 1}, {}], [0])]),
    (Loads([{0: 2, 1: 1}, {1: 1, 2: 2}], (0, 1)).shows, [(FREE, DATA, 3, HOMES, ()), (FREE, DATA, 3, HOMES, (1,))]),
    (first_runs, [([5, 2, 9, 4], 3), ([5, True], 3)]), (sort_rows, [([5, 2, 9, 4], 3), ((5, 2), 9)]), (sort_cost, [(20, 3), (61, 3)]),
    (best_merging, [([5, 1, 3, 1], 2), ([], 2)]), (least_moved, [((5, 1, 3, 1), 3)]), (Merging((0, 1)).shows, [([5, 1], 2), ([5], 2)]),
    (stored_blocks, [(DATA, 0, 1, 2), (DATA, 1, 1, 2)]), (zones, [(DATA, 0, 1, 2)]), (run_count, [(DATA, 0, 1)]),
    (blocks_to_read, [(FREE, DATA, 0, 1, 2), (FILTERED, DATA, 1, 0, 1)]), (rows_from_blocks, [(FREE, DATA, 0, 1, 2), (FREE, DATA, 0, 1, 0)]),
    (block_ends, [(NARROW, FREE, 0, 1, 2), (STATS, FREE, 0, 1, 2), (STATS, ONLY, 0, 1, 1)]), (SurelyFirst(0).shows, [(NARROW, FREE, 0, 2)]),
    (judge_first, [(NARROW, FREE, 0, 1), (TORN, ONLY, 0, 2), (NONE, FREE, 0, 1)]), (FirstTorn([DATA, DATA]).shows, [(TORN, ONLY, 0, 2)]),
    (FirstTorn, [([DATA],)]), (step_moves, [(FREE, (0, 1), 1, DATA, 3), (FREE, [0, 1], 1, DATA, 3)]), (order_moves, [(FREE, (0, 1), DATA, 3)]),
    (least_moves, [(FREE, DATA, 3), (FILTERED, DATA, 8)]), (memory_needed, [(FREE, DATA, 9), (FREE, DATA, -1)]),
    (leanest(FREE).shows, [(FREE,)]), (judge_plans(EXACT, FREE).shows, [(EXACT, FREE)]), (Proof([("swap both", (1,))]).shows, [TURNED]),
    (Proof, [([["all values", ()]],)]), (Proof([["all values", ()]]).shows, [(SCHEMA, LOWER, LOWER[3]), (SCHEMA, JOIN, JOIN)]),
]

INTERFACE = {
    "schemas": {"Schema": "size widths", "Data": "schema tables"},
    "queries": {
        "Query": "schema atoms filters shown", "answer": "query data", "answer_size": "query data",
        "assignments": "query data",
    },
    "statistics": {
        "Statistics": "schema notes", "judge_table": "stats table", "has_tables": "stats", "broken_notes": "stats data",
        "agree": "stats data", "all_tables": "stats table", "count_tables": "stats table", "Agrees": "counts",
        "Crossed": "quantity", "Against": "nodes",
    },
    "weighing": {
        "weigh": "stats table weights", "weighed_ends": "stats table weights", "tightest": "stats table quantity",
        "follows": "stats note", "needed_notes": "stats", "Weighed": "least greatest low high",
    },
    "sizes": {
        "size_ends": "stats query", "reach_sizes": "stats query", "cover": "stats query", "cover_bound": "stats query",
        "SizeEnds": "least greatest", "Covered": "atoms",
    },
    "within": {
        "judge_within": "one other", "is_within": "one other", "show_same": "one other", "frozen": "query",
        "leanest": "query", "leanest_query": "query", "fewest_atoms": "query", "Within": "mapping", "Beyond": "data",
        "Leanest": "kept mapping",
    },
    "renaming": {
        "judge_renamed": "one other", "same_counts": "one other", "Renamed": "mapping", "Apart": "data",
    },
    "shipping": {
        "ship": "query data machines places order", "moved": "query data machines places order ways",
        "run_apart": "query data machines places order ways", "ship_surely": "stats query machines places order",
        "most_moved": "stats query machines places order ways", "Shipped": "ways sums",
    },
    "plans": {
        "Plan": "order ways", "all_plans": "query", "count_plans": "query", "cost": "query plan data",
        "step_costs": "query plan data", "cheapest": "query data", "least_cost": "query data", "Cheapest": "plan floors",
    },
    "running": {"Run": "query data order", "run_through": "query data order"},
    "choosing": {
        "regret": "query plan data", "cost_ends": "stats query plan", "reach_costs": "stats query plan",
        "judge_plans": "stats query", "find_calmest": "stats query", "least_regret": "stats query",
        "regret_after": "stats query table index", "best_questions": "stats query", "CostEnds": "least greatest",
        "Surely": "plan", "Torn": "against", "Calmest": "plan number worst",
    },
    "desks": {"Desk": "stats data"},
    "words": {"split_words": "text", "Word": "kind said at"},
    "texts": {
        "schema_text": "schema", "data_text": "data", "notes_text": "stats", "query_text": "query", "read_schema": "text",
        "read_data": "schema text", "read_notes": "schema text", "read_query": "schema text",
    },
    "questions": {
        "left_after": "stats table quantity", "best_questions": "stats table", "ask": "stats table",
        "fewest_questions": "stats table", "Asked": "tree",
    },
    "expressions": {"columns": "schema expression", "evaluate": "data expression", "expression_of": "query"},
    "polynomials": {
        "polynomials": "schema expression", "degree": "schema expression", "value_on": "terms data",
        "judge_equal": "schema one other", "are_equal": "schema one other", "Equal": "rows", "Unequal": "data",
    },
    "rules": {"rewrite": "schema expression rule path", "possible_steps": "schema expression"},
    "proofs": {
        "prove": "schema one other most", "fewest_steps": "schema one other most", "count_reached": "schema expression most",
        "Proof": "steps",
    },
    "copies": {
        "can_run": "query many homes down", "stopping_sets": "query many homes", "read_evenly": "query data many homes down",
        "greatest_load": "query data many homes down", "surely_greatest_load": "stats query many homes down",
        "loads_with_copy": "query data many homes", "Loads": "parts machines",
    },
    "sorting": {
        "first_runs": "rows memory", "sort_rows": "rows memory", "sort_cost": "many memory", "best_merging": "lengths fan",
        "least_moved": "lengths fan", "Merging": "tree",
    },
    "blocks": {
        "stored_blocks": "data table first block", "zones": "data table first block", "run_count": "data table first",
        "blocks_to_read": "query data index first block", "rows_from_blocks": "query data index first block",
        "block_ends": "stats query index first block", "judge_first": "stats query index block", "SurelyFirst": "first",
        "FirstTorn": "against",
    },
    "limits": {
        "step_moves": "query order step data memory", "order_moves": "query order data memory", "least_moves": "query data memory",
        "memory_needed": "query data most",
    },
}
METHODS = {
    "Schema": {"__len__": "", "cells": "table"},
    "Data": {
        "__len__": "", "rows": "table", "with_value": "table column value", "count_of": "table cell", "filled": "table",
    },
    "Query": {"__len__": "", "variables": "", "allowed": "variable"}, "Statistics": {"__len__": ""},
    "Agrees": {"shows": "stats table"}, "Crossed": {"shows": "stats table"}, "Against": {"shows": "stats table"},
    "Weighed": {"shows": "stats table weights"}, "SizeEnds": {"shows": "stats query"}, "Covered": {"shows": "stats query"},
    "Within": {"shows": "one other"}, "Beyond": {"shows": "one other"}, "Leanest": {"shows": "query"},
    "Renamed": {"shows": "one other"}, "Apart": {"shows": "one other"},
    "Shipped": {"shows": "query data machines places order", "shows_surely": "stats query machines places order"},
    "Plan": {}, "Cheapest": {"shows": "query data"}, "CostEnds": {"shows": "stats query plan"},
    "Run": {
        "__len__": "", "is_done": "", "waiting": "", "told": "", "rest": "", "seen": "", "step": "", "finish": "",
        "change_order": "order", "branch": "",
    },
    "Surely": {"shows": "stats query"}, "Torn": {"shows": "stats query"}, "Calmest": {"shows": "stats query"},
    "Desk": {
        "__len__": "", "put": "table cell", "take": "table cell", "note": "note", "drop": "index", "undo": "", "branch": "",
        "trial": "", "attempt": "work",
    },
    "Word": {}, "Asked": {"shows": "stats table"}, "Equal": {"shows": "schema one other"}, "Unequal": {"shows": "schema one other"},
    "Proof": {"__len__": "", "shows": "schema one other"}, "Loads": {"shows": "query data many homes down"},
    "Merging": {"shows": "lengths fan"}, "SurelyFirst": {"shows": "stats query index block"},
    "FirstTorn": {"shows": "stats query index block"},
}
# Runs and desks are equal to nothing else.
# Classes that check what they are given.
CHECKED = (Schema, Data, Query, Statistics, Desk, Run)
YES_OR_NO = (
    "shows", "shows_surely", "agree", "has_tables", "follows", "is_within", "show_same", "same_counts", "is_done", "are_equal", "can_run",
)
WITHOUT_EQUALITY = ("Run", "Desk")


def picture(value):
    """All that can be seen of a value, with the kinds of lists and tuples and the order of dicts."""
    if isinstance(value, (list, tuple)):
        return (value.__class__.__name__, [picture(item) for item in value])
    if isinstance(value, dict):
        return ("dict", [(picture(key), picture(worth)) for key, worth in value.items()])
    if hasattr(value, "__dict__") and not isinstance(value, PlanError):
        return (value.__class__.__name__, picture(vars(value)))
    return (value.__class__.__name__, repr(value))


def outcome(call, arguments):
    """What a call returns or raises."""
    try:
        return picture(call(*arguments))
    except PlanError as error:
        return (error.__class__.__name__, vars(error))


def lists_and_dicts(value, found):
    """All lists and dicts inside a result, its objects included."""
    if isinstance(value, (list, tuple, dict)):
        if not isinstance(value, tuple):
            found.append(value)
        for item in (value.values() if isinstance(value, dict) else value):
            lists_and_dicts(item, found)
    elif hasattr(value, "__dict__"):
        lists_and_dicts(list(vars(value).values()), found)
    return found


def with_boolean(value):
    """All values that are like a value, but have True or False in place of one 1 or 0."""
    if value.__class__ is int and value in (0, 1):
        return [bool(value)]
    if isinstance(value, (list, tuple)):
        items = list(value)
        return [value.__class__(items[:at] + [other] + items[at + 1:]) for at, item in enumerate(items) for other in with_boolean(item)]
    if isinstance(value, dict):
        pairs = list(value.items())
        return [dict(pairs[:at] + [other] + pairs[at + 1:]) for at, pair in enumerate(pairs) for other in with_boolean(pair)]
    if isinstance(value, Plan):
        return [Plan(order, value.ways) for order in with_boolean(value.order)]
    return []


def fresh(value):
    """A copy of lists and dicts, with copies of those inside."""
    if isinstance(value, (list, tuple)):
        return value.__class__([fresh(item) for item in value])
    return {key: fresh(worth) for key, worth in value.items()} if isinstance(value, dict) else value


class Conventions(Case):

    def test_booleans_are_not_integers_in_arguments(self):
        changed = 0
        for call, several in CALLS:
            if isinstance(call, type) and call not in CHECKED or getattr(call, "__name__", "") in ("value_on", "allowed"):
                continue
            for arguments in several:
                told = outcome(call, arguments)
                if isinstance(told[1], dict):
                    continue
                for other in with_boolean(arguments):
                    self.assertNotEqual(told, outcome(call, other), (call, other))
                    changed += 1
        self.assertTrue(changed > 200, changed)

    def test_booleans_are_not_integers_in_attributes(self):
        kinds = set()
        for call, several in CALLS:
            if getattr(call, "__name__", "") in ("shows", "shows_surely") and outcome(call, several[0])[1] == "True":
                owner = call.__self__
                for name, worth in vars(owner).items():
                    for other in with_boolean(worth):
                        kinds.add(owner.__class__.__name__)
                        setattr(owner, name, other)
                        self.assertIs(call(*several[0]), False, (owner.__class__, other))
                    setattr(owner, name, worth)
                self.assertIs(call(*several[0]), True)
        with_integers = {
            "Agrees", "Weighed", "Covered", "Within", "Leanest", "Renamed", "Shipped", "Cheapest", "Surely", "Calmest", "Asked", "Equal",
            "Proof", "Loads", "Merging", "SurelyFirst",
        }
        self.assertEqual(set(), with_integers - kinds)

    def test_arguments_are_not_kept(self):
        for call, several in CALLS:
            for arguments in several:
                given = fresh(arguments)
                try:
                    told = call(*given)
                except PlanError:
                    continue
                before = picture(told)
                for part in lists_and_dicts(given, []):
                    part.clear()
                self.assertEqual(before, picture(told), call)

    def test_arguments_and_objects_stay_as_they_are(self):
        for call, several in CALLS:
            owner = getattr(call, "__self__", None)
            for arguments in several:
                before = picture(arguments), picture(owner)
                outcome(call, arguments)
                self.assertEqual(before, (picture(arguments), picture(owner)), call)

    def test_the_same_call_says_the_same(self):
        first = [[outcome(call, arguments) for arguments in several] for call, several in CALLS]
        self.assertEqual(first, [[outcome(call, arguments) for arguments in several] for call, several in CALLS])

    def test_no_call_raises_any_other_error(self):
        named = [name for call, several in CALLS for name, _ in [outcome(call, each) for each in several]]
        wanted = "BadSchema BadData BadQuery BadNotes TooLarge Disagrees BadPlan BadIndex BadMachines BadShipping BadText "
        wanted += "BadExpression BadNumber BadMemory BadRows NotPossible Unlike"
        self.assertEqual(set(), set(wanted.split()) - set(named))

    def test_results_can_be_changed_without_effect(self):
        for call, several in CALLS:
            for arguments in several:
                wanted = outcome(call, arguments)
                try:
                    for part in lists_and_dicts(call(*arguments), []):
                        part.clear()
                except PlanError:
                    continue
                self.assertEqual(wanted, outcome(call, arguments), call)

    def test_objects_with_shows_are_new(self):
        for call, several in CALLS:
            for arguments in several:
                try:
                    one, other = call(*arguments), call(*arguments)
                except PlanError:
                    continue
                if hasattr(one, "shows"):
                    self.assertIsNot(one, other)
                    self.assertEqual(one, other)

    def test_answers_to_questions_are_true_or_false(self):
        for call, several in CALLS:
            name = getattr(call, "__name__", "")
            if name in YES_OR_NO:
                for arguments in several:
                    told = outcome(call, arguments)
                    self.assertTrue(told[0] == "bool" or isinstance(told[1], dict), (name, told))


class Interface(Case):

    def parameters(self, function):
        return [name for name in inspect.signature(function).parameters if name != "self"]

    def test_functions_and_classes_stand_in_their_files(self):
        for file, names in INTERFACE.items():
            module = import_module(f"surelyplan.{file}")
            for name, parameters in names.items():
                member = getattr(module, name)
                self.assertEqual(f"surelyplan.{file}", member.__module__)
                self.assertEqual(parameters.split(), self.parameters(member), name)

    def test_methods_stand_in_their_classes(self):
        for file, names in INTERFACE.items():
            module = import_module(f"surelyplan.{file}")
            for name in names:
                if name in METHODS:
                    self.assertEqual(name not in WITHOUT_EQUALITY, "__eq__" in vars(getattr(module, name)))
                    for method, parameters in METHODS[name].items():
                        self.assertIn(method, vars(getattr(module, name)))
                        self.assertEqual(parameters.split(), self.parameters(getattr(getattr(module, name), method)))

    def test_properties(self):
        for name in ("known", "now", "journal"):
            self.assertIsInstance(vars(Desk)[name], property)

    def test_each_class_of_the_interface_is_listed(self):
        classes = {name for names in INTERFACE.values() for name in names if name[0].isupper()}
        self.assertEqual(set(METHODS), classes)
