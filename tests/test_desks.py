"""[15] Desks."""

from surelyplan.desks import Desk
from surelyplan.errors import BadCell, BadData, BadIndex, BadNotes, BadTable, Disagrees, NotPossible, NothingDone, Unlike
from surelyplan.errors import PlanError
from surelyplan.schemas import Data, Schema
from surelyplan.statistics import Statistics
from tests import oracle
from tests.checks import DATA, SCHEMA, STATS, Case, Fault, odd_except
from tests.random_cases import chance_of

FREE = Statistics(SCHEMA, [])
NARROW = Statistics(SCHEMA, [("rows", 0, 2, 4), ("cell", 1, (1,), 1, 9), ("value", 0, 1, 1, 0, 3)])
ROWS = ("rows", 1, 0, 9)


class Stop(Exception):
    """An error that is none of the package."""


def state(desk):
    """All that can be seen of a desk."""
    return desk.known.notes, desk.now.tables, desk.journal, len(desk)


def whole_history(desk):
    """What can be seen of a desk after each undoing, until there is nothing to undo; the desk is a branch."""
    twin, found = desk.branch(), [state(desk)]
    while len(twin) > 0:
        twin.undo()
        found.append(state(twin))
    return found


class Model:
    """A desk in the words of the document: the state after each operation."""

    def __init__(self, stats, data):
        self.states = [(stats.notes, data.tables)]
        self.journal = []

    def seen(self):
        return self.states[-1] + (self.journal, len(self.journal))

    def do(self, operation):
        """The state after an operation, or the error that is required and its index."""
        notes, tables = self.states[-1]
        if operation[0] in ("put", "take"):
            _, table, cell = operation
            place = oracle.cells(SCHEMA, table).index(cell)
            if tables[table][place] == {"put": 9, "take": 0}[operation[0]]:
                return NotPossible, None
            counts = list(tables[table])
            counts[place] += 1 if operation[0] == "put" else -1
            tables = tuple(tuple(counts) if index == table else told for index, told in enumerate(tables))
        elif operation[0] == "note":
            if len(notes) == 16:
                return NotPossible, None
            notes += (operation[1],)
        else:
            if operation[1] >= len(notes):
                return BadIndex, None
            notes = tuple(note for index, note in enumerate(notes) if index != operation[1])
        for index, note in enumerate(notes):
            if not oracle.note_holds(SCHEMA, note, tables[note[1]]):
                return Disagrees, index
        self.states.append((notes, tables))
        self.journal = self.journal + [operation]
        return None, None

    def undo(self):
        self.states.pop()
        operation, self.journal = self.journal[-1], self.journal[:-1]
        return operation


def draw_operation(chance):
    table = chance.randrange(2)
    word = chance.choice(("put", "put", "take", "take", "note", "drop"))
    if word in ("put", "take"):
        return word, table, chance.choice(oracle.cells(SCHEMA, table))
    if word == "drop":
        return word, chance.randrange(6)
    low = chance.randint(0, 3)
    return word, oracle.note_about(chance.choice(oracle.quantities(SCHEMA, table)), table, low, low + chance.randint(0, 9))


def call_for(desk, operation):
    methods = {"put": desk.put, "take": desk.take, "note": desk.note, "drop": desk.drop}
    return methods[operation[0]](*operation[1:])


class Operations(Case):

    def test_put_and_take(self):
        desk = Desk(FREE, DATA)
        self.assertEqual(Data(SCHEMA, ((1, 2, 0, 1), (1, 2))), desk.put(0, (0, 1)))
        self.assertEqual(Data(SCHEMA, ((1, 2, 0, 1), (1, 1))), desk.take(1, (1,)))
        self.assertEqual(Data(SCHEMA, ((1, 2, 0, 1), (1, 1))), desk.now)
        self.assertEqual([("put", 0, (0, 1)), ("take", 1, (1,))], desk.journal)
        self.assertEqual(2, len(desk))
        self.assertEqual(("take", 1, (1,)), desk.undo())
        self.assertEqual(Data(SCHEMA, ((1, 2, 0, 1), (1, 2))), desk.now)
        self.assertEqual(("put", 0, (0, 1)), desk.undo())
        self.assertEqual((FREE, DATA, [], 0), (desk.known, desk.now, desk.journal, len(desk)))

    def test_note_and_drop(self):
        desk = Desk(NARROW, DATA)
        self.assertEqual(Statistics(SCHEMA, NARROW.notes + (ROWS,)), desk.note(ROWS))
        self.assertEqual(Statistics(SCHEMA, NARROW.notes[1:] + (ROWS,)), desk.drop(0))
        self.assertEqual(Statistics(SCHEMA, NARROW.notes[1:]), desk.drop(2))
        self.assertEqual([("note", ROWS), ("drop", 0), ("drop", 2)], desk.journal)
        self.assertEqual(("drop", 2), desk.undo())
        self.assertEqual(("drop", 0), desk.undo())
        self.assertEqual(Statistics(SCHEMA, NARROW.notes + (ROWS,)), desk.known)
        self.assertEqual(("note", ROWS), desk.undo())
        self.assertEqual((NARROW, DATA, []), (desk.known, desk.now, desk.journal))

    def test_notes_of_each_kind_and_the_same_note_twice(self):
        desk = Desk(FREE, DATA)
        notes = [("rows", 0, 0, 36), ("value", 0, 1, 1, 2, 2), ("cell", 1, (1,), 2, 2), ("value", 1, 0, 0, 1, 1), ROWS, ROWS]
        for many, note in enumerate(notes):
            self.assertEqual(tuple(notes[:many + 1]), desk.note(note).notes)
        self.assertEqual(tuple(notes[:5]), desk.drop(4).notes)
        self.assertEqual([("note", note) for note in notes] + [("drop", 4)], desk.journal)

    def test_against_a_model(self):
        chance = chance_of(80)
        refused = []
        for turn in range(30):
            stats = (FREE, NARROW)[turn % 2]
            desk, model = Desk(stats, DATA), Model(stats, DATA)
            for _ in range(60):
                if chance.random() < 0.25 and model.journal:
                    self.assertEqual(model.undo(), desk.undo())
                else:
                    operation = draw_operation(chance)
                    error, index = model.do(operation)
                    if error is None:
                        result = call_for(desk, operation)
                        kind = Data if operation[0] in ("put", "take") else Statistics
                        self.assertEqual(kind, result.__class__)
                        self.assertEqual(desk.now if kind is Data else desk.known, result)
                    else:
                        refused.append((operation[0], error))
                        self.assert_fault(call_for, (desk, operation), error, {} if index is None else {"index": index})
                self.assertEqual(model.seen(), state(desk))
        wanted = {(word, Disagrees) for word in ("put", "take", "note")} | {("take", NotPossible), ("drop", BadIndex)}
        self.assertTrue(wanted <= set(refused))

    def test_nine_rows_and_none(self):
        desk = Desk(FREE, Data(SCHEMA, ((9, 8, 0, 1), (0, 9))))
        self.assert_fault(desk.put, (0, (0, 0)), NotPossible)
        self.assertEqual((9, 9, 0, 1), desk.put(0, (0, 1)).tables[0])
        self.assert_fault(desk.put, (0, (0, 1)), NotPossible)
        self.assert_fault(desk.take, (0, (1, 0)), NotPossible)
        self.assertEqual((9, 9, 0, 0), desk.take(0, (1, 1)).tables[0])
        self.assert_fault(desk.take, (0, (1, 1)), NotPossible)
        self.assert_fault(desk.take, (1, (0,)), NotPossible)
        self.assertEqual(2, len(desk))

    def test_sixteen_notes(self):
        desk = Desk(Statistics(SCHEMA, [ROWS] * 15), DATA)
        self.assertEqual(16, len(desk.note(ROWS)))
        for note in (ROWS, None, ("rows", 1, 8, 9)):
            self.assert_fault(desk.note, (note,), NotPossible)
        self.assertEqual(15, len(desk.drop(15)))
        self.assert_fault(desk.note, (("rows", 1, 8, 9),), Disagrees, {"index": 15})
        self.assert_fault(desk.note, (None,), BadNotes, {"index": 15})
        self.assertEqual(16, len(desk.note(ROWS)))
        self.assertEqual(16, len(desk.known))

    def test_undoing_a_refused_operation_is_undoing_the_one_before_it(self):
        desk = Desk(NARROW, DATA)
        desk.put(1, (0,))
        self.assert_fault(desk.drop, (3,), BadIndex)
        self.assertEqual(("put", 1, (0,)), desk.undo())
        self.assert_fault(desk.undo, (), NothingDone)

    def test_many_operations(self):
        desk = Desk(FREE, DATA)
        for _ in range(1000):
            desk.put(0, (1, 0))
            desk.take(0, (1, 0))
        self.assertEqual((DATA, 2000), (desk.now, len(desk)))
        with desk.trial() as inner:
            inner.put(0, (1, 0))
        self.assertEqual(2000, len(desk.journal))
        while len(desk) > 0:
            desk.undo()
        self.assertEqual(DATA, desk.now)


class Refused(Case):

    def assert_unchanged(self, desk, call, arguments, error, attributes=None):
        before = state(desk)
        self.assert_fault(call, arguments, error, attributes)
        self.assertEqual(before, state(desk))

    def test_desks(self):
        other = Data(Schema(2, (2,)), ((1, 1, 1, 1),))
        good = (STATS, DATA)
        self.assert_error_order(Desk, good, [Fault(BadNotes, {0: None}, index=None), Fault(BadData, {1: None}, table=None)])
        self.assert_fault(Desk, (STATS, other), Unlike)
        self.assert_refused(Desk, good, 0, odd_except(Statistics), BadNotes, index=None)
        self.assert_refused(Desk, good, 1, odd_except(Data), BadData, table=None)
        for notes, index in (
            ([("rows", 0, 4, 9)], 0), ([("rows", 0, 3, 3), ("rows", 1, 3, 2), ("rows", 0, 0, 0)], 1),
            ([ROWS, ROWS, ("cell", 0, (1, 0), 1, 9)], 2),
        ):
            self.assert_fault(Desk, (Statistics(SCHEMA, notes), DATA), Disagrees, {"index": index})
        self.assert_fault(Desk, (Statistics(SCHEMA, [("rows", 0, 4, 9)]), other), Unlike)

    def test_rows(self):
        desk = Desk(NARROW, DATA)
        cells = odd_except() + [(0,), (0, 0, 0), (0, 2), (True, 0), [0, 1], (-1, 0)]
        for method in (desk.put, desk.take):
            for table in [value for value in odd_except() if value.__class__ is not int] + [2, -1]:
                self.assert_unchanged(desk, method, (table, (0, 0)), BadTable)
                self.assert_unchanged(desk, method, (table, None), BadTable)
            for cell in cells:
                self.assert_unchanged(desk, method, (0, cell), BadCell)
            self.assert_unchanged(desk, method, (1, (0, 0)), BadCell)
            self.assert_unchanged(desk, method, (1, (False,)), BadCell)

    def test_rows_with_which_the_data_would_not_agree(self):
        desk = Desk(NARROW, Data(SCHEMA, ((1, 2, 0, 1), (1, 1))))
        self.assert_unchanged(desk, desk.put, (0, (0, 0)), Disagrees, {"index": 0})
        self.assert_unchanged(desk, desk.put, (0, (1, 1)), Disagrees, {"index": 0})
        self.assert_unchanged(desk, desk.take, (1, (1,)), Disagrees, {"index": 1})
        desk.drop(0)
        self.assert_unchanged(desk, desk.put, (0, (1, 1)), Disagrees, {"index": 1})
        self.assert_unchanged(desk, desk.take, (1, (1,)), Disagrees, {"index": 0})
        # A cell with nine rows is refused as such, even if a note would refuse it, too.
        full = Desk(Statistics(SCHEMA, [("cell", 1, (1,), 9, 9), ("cell", 1, (0,), 0, 0)]), Data(SCHEMA, ((0,) * 4, (0, 9))))
        self.assert_unchanged(full, full.put, (1, (1,)), NotPossible)
        self.assert_unchanged(full, full.take, (1, (0,)), NotPossible)
        self.assert_unchanged(full, full.put, (1, (0,)), Disagrees, {"index": 1})
        self.assert_unchanged(full, full.take, (1, (1,)), Disagrees, {"index": 0})

    def test_notes(self):
        desk = Desk(NARROW, DATA)
        wrong = odd_except() + [
            ("rows", 2, 0, 9), ("rows", 0, 0, 37), ("rows", 0, -1, 9), ("rows", 0, 0), ["rows", 0, 0, 9], ("rows", False, 0, 9),
            ("rows", 0, 0, True), ("value", 0, 2, 0, 0, 9), ("cell", 1, (0, 0), 0, 9), ("cell", 0, [0, 0], 0, 9),
        ]
        for note in wrong:
            self.assert_unchanged(desk, desk.note, (note,), BadNotes, {"index": 3})
        for note in (("rows", 0, 4, 9), ("rows", 0, 0, 2), ("rows", 0, 9, 0), ("cell", 1, (1,), 3, 3)):
            self.assert_unchanged(desk, desk.note, (note,), Disagrees, {"index": 3})

    def test_indices(self):
        desk = Desk(NARROW, DATA)
        for index in [value for value in odd_except() if value.__class__ is not int] + [3, -1, -3, 99]:
            self.assert_unchanged(desk, desk.drop, (index,), BadIndex)
        for _ in range(3):
            desk.drop(0)
        self.assert_unchanged(desk, desk.drop, (0,), BadIndex)

    def test_nothing_to_undo(self):
        desk = Desk(NARROW, DATA)
        self.assert_unchanged(desk, desk.undo, (), NothingDone)


class Caller(Case):

    def test_results_that_are_changed_by_the_caller(self):
        desk = Desk(NARROW, DATA)
        desk.put(0, (1, 0))
        desk.note(ROWS)
        before = whole_history(desk)
        desk.journal.clear()
        desk.journal.append(("put", 0, (0, 0)))
        desk.known.notes = ()
        desk.now.tables = ((9,) * 4, (9, 9))
        self.assertEqual(before, whole_history(desk))
        self.assertIsNot(desk.journal, desk.journal)
        self.assert_new_each_time(lambda: desk.journal, lambda journal: journal.pop())

    def test_results_of_operations_that_are_changed_by_the_caller(self):
        desk = Desk(FREE, DATA)
        desk.put(0, (1, 0)).tables = ()
        self.assertEqual((1, 1, 1, 1), desk.now.tables[0])
        desk.take(0, (1, 0)).tables = ()
        self.assertEqual((1, 1, 0, 1), desk.now.tables[0])
        desk.note(ROWS).notes = ()
        self.assertEqual((ROWS,), desk.known.notes)
        desk.drop(0).notes = (ROWS, ROWS)
        self.assertEqual((), desk.known.notes)

    def test_arguments_that_are_changed_by_the_caller(self):
        stats, data = Statistics(SCHEMA, NARROW.notes), Data(SCHEMA, DATA.tables)
        desk = Desk(stats, data)
        stats.notes = ()
        data.tables = ()
        self.assertEqual((NARROW, DATA), (desk.known, desk.now))
        twin = desk.branch()
        self.assertEqual((NARROW, DATA), (twin.known, twin.now))

    def test_kinds_of_results(self):
        desk = Desk(NARROW, DATA)
        self.assertEqual([Statistics, Data, list], [told.__class__ for told in (desk.known, desk.now, desk.journal)])
        self.assertEqual(Desk, desk.branch().__class__)


class Branches(Case):

    def test_branches_go_on_independently(self):
        desk = Desk(NARROW, DATA)
        desk.put(0, (1, 0))
        desk.note(ROWS)
        twin = desk.branch()
        self.assertEqual(state(desk), state(twin))
        before = state(desk)
        twin.drop(0)
        twin.take(1, (0,))
        self.assertEqual(before, state(desk))
        there = state(twin)
        desk.undo()
        desk.undo()
        self.assertEqual((NARROW.notes, DATA.tables, [], 0), state(desk))
        self.assertEqual(there, state(twin))
        self.assertEqual(("take", 1, (0,)), twin.undo())
        self.assertEqual([("drop", 0), ("note", ROWS), ("put", 0, (1, 0))], [twin.undo() for _ in range(3)])
        self.assertEqual((NARROW.notes, DATA.tables, [], 0), state(twin))
        self.assert_fault(twin.undo, (), NothingDone)

    def test_a_branch_in_a_trial(self):
        desk = Desk(NARROW, DATA)
        desk.put(0, (1, 0))
        with desk.trial() as inner:
            inner.note(ROWS)
            twin = inner.branch()
            self.assertEqual(2, len(twin))
            inner.undo()
            self.assert_fault(inner.undo, (), NothingDone)
            twin.take(0, (1, 0))
            self.assertEqual([("take", 0, (1, 0)), ("note", ROWS), ("put", 0, (1, 0))], [twin.undo() for _ in range(3)])
            twin.put(1, (0,))
        # The end of the trial does not change the branch.
        self.assertEqual([("put", 1, (0,))], twin.journal)
        self.assertEqual([("put", 0, (1, 0))], desk.journal)

    def test_a_branch_that_has_trials(self):
        desk = Desk(NARROW, DATA)
        twin = desk.branch()
        with twin.trial():
            twin.put(1, (0,))
            desk.take(1, (0,))
        self.assertEqual(([], [("take", 1, (0,))]), (twin.journal, desk.journal))


class Trials(Case):

    def setUp(self):
        self.desk = Desk(NARROW, DATA)
        self.desk.put(0, (1, 0))
        self.desk.note(ROWS)
        self.before = whole_history(self.desk)

    def work(self, desk):
        desk.take(0, (1, 0))
        desk.drop(3)
        desk.put(1, (1,))
        desk.note(("rows", 1, 4, 9))

    def assert_as_before(self):
        self.assertEqual(self.before, whole_history(self.desk))
        self.assertEqual(("note", ROWS), self.desk.undo())

    def test_a_trial(self):
        with self.desk.trial() as inner:
            self.assertIs(inner, self.desk)
            self.work(inner)
            self.assertEqual(6, len(inner))
            self.assertEqual(("note", ("rows", 1, 4, 9)), inner.journal[-1])
            self.assertEqual([("put", 0, (1, 0)), ("note", ROWS)], inner.journal[:2])
        self.assert_as_before()

    def test_a_trial_that_an_error_leaves(self):
        for error in (Stop, ValueError, KeyError, PlanError):
            with self.assertRaises(error):
                with self.desk.trial() as inner:
                    self.work(inner)
                    raise error("no")
            self.assertEqual(self.before, whole_history(self.desk))
        with self.assertRaises(Disagrees) as caught:
            with self.desk.trial() as inner:
                self.work(inner)
                inner.take(1, (0,))
        self.assertEqual(3, caught.exception.index)
        self.assert_as_before()

    def test_a_trial_that_is_left_early(self):
        def leave():
            with self.desk.trial() as inner:
                self.work(inner)
                return len(inner)
        self.assertEqual(6, leave())
        for _ in range(2):
            with self.desk.trial():
                self.work(self.desk)
                continue
        self.assert_as_before()

    def test_undoing_in_a_trial(self):
        with self.desk.trial() as inner:
            self.assert_fault(inner.undo, (), NothingDone)
            self.work(inner)
            undone = [inner.undo() for _ in range(4)]
            self.assertEqual([("note", ("rows", 1, 4, 9)), ("put", 1, (1,)), ("drop", 3), ("take", 0, (1, 0))], undone)
            self.assertEqual(self.before[0], state(inner))
            for _ in range(2):
                self.assert_fault(inner.undo, (), NothingDone)
            self.assertEqual(self.before[0], state(inner))
            inner.put(1, (1,))
        self.assert_as_before()

    def test_a_trial_in_which_operations_from_before_are_undone(self):
        with self.assertRaises(NothingDone):
            with self.desk.trial() as inner:
                self.work(inner)
                for _ in range(5):
                    inner.undo()
        self.assert_as_before()

    def test_nested_trials(self):
        with self.desk.trial() as outer:
            outer.put(1, (1,))
            middle = whole_history(outer)
            with outer.trial() as inner:
                self.assertIs(inner, self.desk)
                self.assert_fault(inner.undo, (), NothingDone)
                self.work(inner)
                with inner.trial() as last:
                    last.put(1, (0,))
                    self.assertEqual(("put", 1, (0,)), last.undo())
                    self.assert_fault(last.undo, (), NothingDone)
                self.assertEqual(("note", ("rows", 1, 4, 9)), inner.undo())
            self.assertEqual(middle, whole_history(outer))
            with self.assertRaises(Stop):
                with outer.trial() as inner:
                    self.work(inner)
                    raise Stop("no")
            self.assertEqual(middle, whole_history(outer))
            self.assertEqual(("put", 1, (1,)), outer.undo())
            self.assert_fault(outer.undo, (), NothingDone)
        self.assert_as_before()

    def test_two_trials_in_one_block(self):
        with self.desk.trial() as one, self.desk.trial() as two:
            self.assertIs(one, two)
            self.work(one)
        self.assert_as_before()

    def test_a_trial_begins_with_its_block(self):
        block = self.desk.trial()
        self.desk.put(1, (1,))
        self.before = whole_history(self.desk)
        with block as inner:
            self.assert_fault(inner.undo, (), NothingDone)
            self.work(inner)
        self.assertEqual(self.before, whole_history(self.desk))
        self.assertEqual(("put", 1, (1,)), self.desk.undo())

    def test_trials_one_after_the_other(self):
        for _ in range(3):
            with self.desk.trial() as inner:
                self.work(inner)
            self.assertEqual(self.before, whole_history(self.desk))
        self.assert_as_before()

    def test_attempt(self):
        def work(desk):
            self.assertIs(desk, self.desk)
            self.work(desk)
            return desk.known.notes, len(desk)
        self.assertEqual((NARROW.notes + (("rows", 1, 4, 9),), 6), self.desk.attempt(work))
        self.assertEqual(self.before, whole_history(self.desk))
        self.assertIsNone(self.desk.attempt(lambda inner: None))
        self.assertIs(self.desk, self.desk.attempt(lambda inner: inner))
        self.assertEqual(7, self.desk.attempt(lambda inner: inner.attempt(lambda last: 7)))
        self.assert_as_before()

    def test_attempt_with_an_error(self):
        def work(desk):
            self.work(desk)
            raise Stop("no")
        self.assertRaises(Stop, self.desk.attempt, work)
        self.assertEqual(self.before, whole_history(self.desk))
        self.assert_fault(self.desk.attempt, (lambda inner: inner.undo(),), NothingDone)
        self.assert_fault(self.desk.attempt, (lambda inner: inner.put(0, (0, 0)) and inner.put(0, (0, 0)),), Disagrees)
        self.assert_as_before()

    def test_a_branch_from_an_attempt_goes_on(self):
        twin = self.desk.attempt(lambda inner: (self.work(inner), inner.branch())[1])
        self.assertEqual(6, len(twin))
        self.assertEqual(("note", ("rows", 1, 4, 9)), twin.undo())
        self.assert_as_before()
