"""[32] Polynomials."""

from surelyplan.errors import BadExpression, BadSchema, TooLarge, Unlike
from surelyplan.expressions import evaluate
from surelyplan.polynomials import Equal, Unequal, are_equal, degree, judge_equal, polynomials, value_on
from surelyplan.schemas import Data, Schema
from tests import algebra
from tests.checks import DATA, SCHEMA, Case, Fault, odd_except
from tests.random_cases import chance_of, draw_data
from tests.test_expressions import JOIN, ONE, PAIR, WRONG, joined
from tests.test_rules import low

TWICE, FEW = ("both", ONE, ONE), ("filter", 0, (0,), ONE)
FIRST, SECOND = (1, (0,)), (1, (1,))
BIG = Schema(3, (2, 1))
EMPTY = ("filter", 0, (), ONE)


def shape(rows):
    """A dict of polynomials as a list, with the order of all dicts."""
    return [(row, list(terms.items())) for row, terms in rows.items()]


class Values(Case):

    def test_each_word(self):
        for expression, wanted in [
            (ONE, {(0,): {(FIRST,): 1}, (1,): {(SECOND,): 1}}), (FEW, {(0,): {(FIRST,): 1}}), (EMPTY, {}),
            (TWICE, {(0,): {(FIRST,): 2}, (1,): {(SECOND,): 2}}), (("keep", (), ONE), {(): {(FIRST,): 1, (SECOND,): 1}}),
            (("same", 0, 1, PAIR), {(0, 0): {((0, (0, 0)),): 1}, (1, 1): {((0, (1, 1)),): 1}}),
            (("join", FEW, FEW), {(0, 0): {(FIRST, FIRST): 1}}), (("join", ONE, EMPTY), {}), (("both", EMPTY, FEW), {(0,): {(FIRST,): 1}}),
            (("join", TWICE, FEW), {(0, 0): {(FIRST, FIRST): 2}, (1, 0): {(FIRST, SECOND): 2}}),
            (("keep", (), ("join", ONE, ONE)), {(): {(FIRST, FIRST): 1, (FIRST, SECOND): 2, (SECOND, SECOND): 1}}),
            (("keep", (1,), PAIR), {(0,): {((0, (0, 0)),): 1, ((0, (1, 0)),): 1}, (1,): {((0, (0, 1)),): 1, ((0, (1, 1)),): 1}}),
            (("keep", (1, 0), PAIR), {(a, b): {((0, (b, a)),): 1} for a in (0, 1) for b in (0, 1)}),
        ]:
            self.assertEqual(shape(wanted), shape(polynomials(SCHEMA, expression)), expression)

    def test_against_sums_over_rows(self):
        chance = chance_of(320)
        lengths, several, none = set(), 0, 0
        for _ in range(250):
            schema = Schema(chance.choice((2, 3)), chance.choice(((2, 1), (1,), (1, 1, 2))))
            expression = algebra.some(chance, schema, 9, 4)
            found = polynomials(schema, expression)
            self.assertEqual(shape(algebra.polynomials(schema, expression)), shape(found), expression)
            data = draw_data(chance, schema, 4)
            counts = {row: value_on(terms, data) for row, terms in found.items()}
            self.assertEqual(evaluate(data, expression), {row: count for row, count in counts.items() if count > 0})
            self.assertEqual(counts, {row: algebra.value(terms, data) for row, terms in found.items()})
            terms = [term for row in found for term in found[row]]
            self.assertEqual(max([len(term) for term in terms], default=0), degree(schema, expression))
            lengths |= {len(term) for term in terms}
            several += any(len(set(term)) < len(term) for term in terms)
            none += found == {}
        self.assertTrue({1, 2, 3} <= lengths and several > 20 and none > 5)

    def test_the_empty_term(self):
        # No expression has it, but it has a value.
        self.assertEqual(5, value_on({(): 5}, DATA))
        self.assertEqual(0, value_on({}, DATA))
        self.assertEqual(-3 + 2 * 1 * 2 * 2, value_on({(): -3, (FIRST, SECOND, SECOND): 2}, DATA))
        self.assertEqual(0, degree(SCHEMA, EMPTY))
        self.assertEqual(8, degree(SCHEMA, joined(*[ONE] * 8)))

    def test_schemas_with_more_values(self):
        self.assertEqual(3, len(polynomials(BIG, ONE)))
        for size in (4, 5, 6):
            schema = Schema(size, (2, 1))
            for call in (polynomials, degree):
                self.assert_fault(call, (schema, ONE), TooLarge)
            for call in (judge_equal, are_equal, Equal({}).shows, Unequal(DATA).shows):
                self.assert_fault(call, (schema, ONE, ONE), TooLarge)


class Limits(Case):

    def check(self, expression, most, schema=BIG):
        """An expression in which some keep, both or join has this greatest number of terms."""
        self.assertEqual(most, algebra.biggest(schema, expression))
        if most > 3000:
            for call in (polynomials, degree):
                self.assert_fault(call, (schema, expression), TooLarge)
            for call in (judge_equal, are_equal, Equal({}).shows):
                self.assert_fault(call, (schema, expression, expression), TooLarge)
        else:
            self.assertEqual(shape(algebra.polynomials(schema, expression)), shape(polynomials(schema, expression)))
            self.assertTrue(are_equal(schema, expression, expression))

    def test_just_3000(self):
        schema, other, third, last = Schema(3, (2, 1, 2, 1)), ("table", 0), ("table", 2), ("table", 3)
        outer, inner = [("filter", 0, values, third) for values in ((0, 2), (1, 2))]
        many = ("join", last, ("keep", (1,), joined(third, outer, third, inner)))
        self.check(many, 2997, schema)
        for part, terms in ((low(other), 3000), (("same", 0, 1, other), 3000), (("filter", 0, (0, 1), ("filter", 1, (0, 1), other)), 3001)):
            self.check(("both", many, part), terms, schema)
            self.check(("both", part, many), terms, schema)
            if terms == 3000:
                self.check(("keep", (0,), ("both", part, many)), terms, schema)
        side = ("keep", (4,), ("join", ("both", other, third), ("keep", (1, 2, 3), ("join", inner, ("filter", 1, (0, 1), third)))))
        self.check(("join", outer, side), 3000, schema)
        self.check(("join", side, outer), 3000, schema)
        self.check(("filter", 0, (0,), ("join", side, outer)), 3000, schema)
        self.check(("join", side, third), algebra.biggest(schema, ("join", side, third)), schema)
        # All terms with six of nine cells, the same ones several times too.
        three = ("keep", (), joined(PAIR, PAIR, PAIR))
        self.check(("join", three, three), 3003)

    def test_rows_and_terms_count(self):
        two, three = ("keep", (), joined(PAIR, PAIR)), ("keep", (), joined(PAIR, PAIR, PAIR))
        four = joined(PAIR, PAIR, PAIR, ONE)
        for expression, most in [
            (four, 2187), (joined(four, ONE), 6561), (("join", two, three), 1287), (("both", four, four), 2187),
            (("keep", (0, 1), four), 2187), (("keep", (), joined(four, ONE)), 6561), (("join", three, ("keep", (), PAIR)), 729),
            (("both", four, joined(ONE, PAIR, PAIR, PAIR)), 4347), (("join", three, joined(PAIR, ONE)), 4455),
        ]:
            self.check(expression, most)

    def test_inner_expressions_count(self):
        five = joined(PAIR, PAIR, PAIR, ONE, ONE)
        for outside in (
            ("filter", 0, (0,), five), ("filter", 0, (), five), ("same", 0, 1, five), ("keep", (), ("filter", 0, (), five)),
            ("join", ("keep", (), five), ("filter", 0, (), ONE)), ("both", ("keep", (0,), five), ONE),
        ):
            self.check(outside, 6561)
        # A filter, a same and a table have no limit of their own: they have no more terms than what is in them.
        self.check(("filter", 0, (0, 1, 2), ("same", 0, 1, joined(PAIR, PAIR, PAIR, ONE))), 2187)

    def test_unequal_shows_without_the_limit(self):
        five = joined(PAIR, PAIR, PAIR, ONE, ONE)
        some, none = Data(BIG, [[1] * 9, [1] * 3]), Data(BIG, [[1] * 9, [0] * 3])
        fewer = ("filter", 7, (0, 1), five)
        self.assert_fault(judge_equal, (BIG, five, fewer), TooLarge)
        self.assertIs(Unequal(some).shows(BIG, five, fewer), True)
        self.assertIs(Unequal(none).shows(BIG, five, fewer), False)
        self.assertIs(Unequal(some).shows(BIG, five, five), False)


class Judging(Case):

    def check(self, schema, one, other):
        """Judge two expressions, and compare with single rows."""
        judged = judge_equal(schema, one, other)
        equal = algebra.polynomials(schema, one) == algebra.polynomials(schema, other)
        self.assertEqual(equal, isinstance(judged, Equal))
        self.assertEqual(not equal, isinstance(judged, Unequal))
        self.assertIs(are_equal(schema, one, other), equal)
        self.assertIs(judged.shows(schema, one, other), True)
        self.assertIs(judged.shows(schema, other, one), True)
        if equal:
            self.assertEqual(shape(algebra.polynomials(schema, one)), shape(judged.rows_by))
        else:
            self.assertEqual(schema, judged.data.schema)
            self.assertNotEqual(algebra.answer(judged.data, one), algebra.answer(judged.data, other))
        return equal

    def test_expressions_by_chance(self):
        chance = chance_of(321)
        told = []
        while len(told) < 250:
            schema = Schema(chance.choice((2, 3)), chance.choice(((2, 1), (1, 1), (1, 2))))
            one, other = [algebra.some(chance, schema, 7, 3) for _ in range(2)]
            if algebra.width(schema, one) == algebra.width(schema, other):
                told.append(self.check(schema, one, other))
        self.assertTrue(20 < sum(told) < 230)

    def test_hard_cases(self):
        for equal, one, other in [
            (True, ("join", ("keep", (), ONE), ONE), ("keep", (1,), ("join", ONE, ONE))),
            (True, ("keep", (1, 0), ("join", ONE, ONE)), ("join", ONE, ONE)), (True, EMPTY, ("filter", 0, (1,), FEW)),
            (True, ("both", FEW, ("filter", 0, (1,), ONE)), ONE), (False, TWICE, ONE), (False, EMPTY, ONE),
            (False, ("keep", (0,), ("join", ONE, ONE)), ("keep", (0,), ("same", 0, 1, ("join", ONE, ONE)))),
            # Equal wherever there is at most one row in each cell.
            (False, ("keep", (0,), ("same", 0, 1, ("join", ONE, ONE))), ONE),
            (False, ("keep", (0,), ("same", 0, 1, joined(ONE, ONE))), ("keep", (0,), ("same", 0, 1, ("same", 1, 2, joined(ONE, ONE, ONE))))),
            (False, ("keep", (), ("both", joined(ONE, ONE), joined(PAIR))), ("keep", (), joined(ONE, ("keep", (0,), PAIR)))),
        ]:
            self.assertEqual(equal, self.check(SCHEMA, one, other), (one, other))

    def test_data_far_from_the_beginning(self):
        # With n rows, n times n less n is told from 0 only by two rows, and n (n - 1) (n - 2) only by three.
        rows, square, cube = [("keep", (), joined(*[ONE] * many)) for many in (1, 2, 3)]
        self.assertFalse(self.check(SCHEMA, square, rows))
        self.assertFalse(self.check(SCHEMA, ("both", cube, ("both", rows, rows)), ("both", square, ("both", square, square))))

    def test_shows_of_equal(self):
        one, other = ("both", ("join", ONE, ONE), ("join", ONE, ONE)), ("join", TWICE, ONE)
        right = algebra.polynomials(SCHEMA, one)
        self.assertIs(Equal(right).shows(SCHEMA, one, other), True)
        turned = {row: dict(reversed(right[row].items())) for row in reversed(right)}
        self.assertIs(Equal(turned).shows(SCHEMA, one, other), True)
        pair = ((1, (0,)), (1, (1,)))
        first = {term: factor for term, factor in right[0, 1].items() if term == pair}
        self.assertEqual({pair: 2}, first)
        for row, terms in [
            ((0, 1), {}), ((0, 1), {pair: 1}), ((0, 1), {pair: 3}), ((0, 1), {pair: -2}), ((0, 1), {pair[::-1]: 2}), ((0, 1), {(): 2}),
            ((0, 1), {pair: 2, (): 1}), ((0, 1), {pair: 2, (FIRST,): 0}), ((0, 1), {pair: 2, (FIRST, FIRST): 1}), ((0, 1), {pair[:1]: 2}),
            ((0, 1), {((True, (0,)), (1, (1,))): 2}), ((0, 1), {((1, (False,)), (1, (1,))): 2}), ((0, 1), {((1, (0,)), (1, (True,))): 2}),
            ((0, 2), {}), ((0, 2), {pair: 2}), ((0,), {}), ((), {}),
        ]:
            self.assertIs(Equal({**right, row: terms}).shows(SCHEMA, one, other), False, (row, terms))
        less = {row: terms for row, terms in right.items() if row != (0, 1)}
        for rows in (less, {}, {**less, (0, True): right[0, 1]}, {**less, (False, 1): right[0, 1]}):
            self.assertIs(Equal(rows).shows(SCHEMA, one, other), False, rows)
        self.assertIs(Equal({}).shows(SCHEMA, EMPTY, ("filter", 0, (1,), FEW)), True)
        self.assertIs(Equal({(0,): {}}).shows(SCHEMA, EMPTY, EMPTY), False)
        self.assertIs(Equal({(0,): {(FIRST,): True}}).shows(SCHEMA, FEW, FEW), False)
        self.assertIs(Equal({(0,): {(FIRST,): 1}}).shows(SCHEMA, FEW, FEW), True)
        self.assertIs(Equal({(0,): {(FIRST,): 1}}).shows(SCHEMA, FEW, ONE), False)
        self.assertIs(Equal({(0,): {(FIRST,): 1}}).shows(SCHEMA, ONE, FEW), False)

    def test_shows_of_unequal(self):
        right = Data(SCHEMA, ((0, 0, 0, 0), (0, 1)))
        self.assertIs(Unequal(right).shows(SCHEMA, ONE, FEW), True)
        for schema, tables in ((SCHEMA, ((9, 9, 9, 9), (5, 0))), (Schema(2, (1, 1)), ((9, 9), (0, 1))), (BIG, ((0,) * 9, (0, 1, 0)))):
            self.assertIs(Unequal(Data(schema, tables)).shows(SCHEMA, ONE, FEW), False)
        self.assertIs(Unequal(right).shows(SCHEMA, ONE, ONE), False)

    def test_current_attributes(self):
        equal = judge_equal(SCHEMA, FEW, FEW)
        equal.rows_by = {(0,): {(FIRST,): 2}}
        self.assertIs(equal.shows(SCHEMA, FEW, FEW), False)
        self.assertIs(equal.shows(SCHEMA, ("both", FEW, FEW), ("both", FEW, FEW)), True)
        equal.rows_by[(0,)][(FIRST,)] = 1
        self.assertIs(equal.shows(SCHEMA, FEW, FEW), True)
        unequal = judge_equal(SCHEMA, FEW, ONE)
        unequal.data = Data(SCHEMA, ((0, 0, 0, 0), (1, 0)))
        self.assertIs(unequal.shows(SCHEMA, FEW, ONE), False)

    def test_rows_by_is_a_copy(self):
        told = {(0,): {(FIRST,): 1}}
        equal = Equal(told)
        told[(0,)][(FIRST,)] = 2
        told[(1,)] = {}
        self.assertEqual({(0,): {(FIRST,): 1}}, equal.rows_by)
        self.assert_new_each_time(lambda: judge_equal(SCHEMA, ONE, ONE).rows_by.copy(), lambda rows: rows.clear())
        for call in (lambda: polynomials(SCHEMA, ONE), lambda: judge_equal(SCHEMA, ONE, ONE).rows_by):
            self.assert_new_each_time(call, lambda rows: rows[(0,)].clear())

    def test_equality(self):
        rows = {(0,): {(FIRST,): 1}, (1,): {(SECOND,): 1}}
        turned = dict(reversed(rows.items()))
        self.assert_equality((Equal(rows), Equal(turned)), [Equal({}), Equal({(0,): {(FIRST,): 1}}), Unequal(DATA)])
        self.assert_equality((Unequal(DATA), Unequal(Data(SCHEMA, DATA.tables))), [Unequal(Data(SCHEMA, ((0,) * 4, (0, 0)))), Equal({})])

    def test_errors(self):
        wrong = ("table", 2)
        for call in (polynomials, degree):
            self.assert_error_order(call, (SCHEMA, ONE), [Fault(BadSchema, {0: DATA}), Fault(BadExpression, {1: wrong})])
            self.assert_refused(call, (SCHEMA, ONE), 0, odd_except(Schema), BadSchema)
            self.assert_refused(call, (SCHEMA, ONE), 1, WRONG, BadExpression)
            self.assert_fault(call, (Schema(4, (2, 1)), wrong), BadExpression)
        for call in (judge_equal, are_equal, Equal({}).shows, Unequal(DATA).shows):
            self.assert_error_order(call, (SCHEMA, ONE, FEW), [
                Fault(BadSchema, {0: None}), Fault(BadExpression, {1: wrong}), Fault(BadExpression, {2: wrong}), Fault(Unlike, {2: PAIR}),
            ])
            self.assert_refused(call, (SCHEMA, ONE, ONE), 1, WRONG, BadExpression)
            self.assert_refused(call, (SCHEMA, ONE, ONE), 2, WRONG, BadExpression)
            self.assert_fault(call, (Schema(4, (2, 1)), ONE, PAIR), Unlike)
            self.assert_fault(call, (Schema(4, (2, 1)), ONE, wrong), BadExpression)
            self.assert_fault(call, (BIG, JOIN, joined(PAIR, PAIR, PAIR, ONE, ONE)), Unlike)
