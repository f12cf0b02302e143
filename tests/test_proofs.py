"""[34] Proofs."""

from surelyplan.errors import BadExpression, BadNumber, BadSchema, TooLarge, Unlike
from surelyplan.polynomials import are_equal
from surelyplan.proofs import Proof, count_reached, fewest_steps, prove
from surelyplan.rules import RULES, rewrite
from surelyplan.schemas import Schema
from tests import algebra
from tests.checks import DATA, SCHEMA, Case, Fault, odd_except
from tests.random_cases import chance_of
from tests.test_expressions import JOIN, ONE, PAIR, WRONG, joined
from tests.test_rules import low, same

SWAPPED = ("keep", (1, 2, 0), ("join", ONE, PAIR))
CHAIN = low(("filter", 1, (1,), ("filter", 2, (0, 1), ("filter", 1, (0,), joined(PAIR, ONE, ONE, ONE)))))
# 2001 expressions are reached from this one by four steps.
SIDE = low(("filter", 0, (0, 1), same(("keep", (0, 1), PAIR))))
BEYOND = ("filter", 1, (1,), ("both", SIDE, same(("filter", 1, (0,), SIDE))))


class Search(Case):

    def check(self, schema, one, most):
        """All expressions that are reached, compared with an own search; and how far they are away."""
        found = algebra.reached(schema, RULES, one, most)
        self.assertEqual(len(found), count_reached(schema, one, most))
        for other in list(found)[:20] + list(found)[-40:]:
            proof = prove(schema, one, other, most)
            self.assertEqual(found[other], len(proof))
            self.assertEqual(found[other], fewest_steps(schema, one, other, most))
            self.assertIs(proof.shows(schema, one, other), True)
            result = one
            for rule, path in proof.steps:
                result = rewrite(schema, result, rule, path)
            self.assertEqual(other, result)
            if found[other] > 0:
                less = found[other] - 1
                self.assertIsNone(prove(schema, one, other, less))
                self.assertIsNone(fewest_steps(schema, one, other, less))
        return set(found.values())

    def test_against_an_own_search(self):
        chance = chance_of(340)
        lengths = set()
        for case in range(60):
            expression = algebra.some(chance, SCHEMA, 9, 6)
            lengths |= self.check(SCHEMA, expression, case % 4)
        self.assertEqual({0, 1, 2, 3}, lengths)

    def test_four_steps(self):
        for expression in (JOIN, ("keep", (0, 1), same(low(PAIR))), low(("both", ONE, low(ONE))), joined(ONE, ONE, ONE), low(low(ONE))):
            self.check(SCHEMA, expression, 4)

    def test_some_proofs(self):
        for most in range(1, 5):
            self.assertEqual(Proof((("swap join", ()),)), prove(SCHEMA, JOIN, SWAPPED, most))
            self.assertEqual(1, fewest_steps(SCHEMA, JOIN, SWAPPED, most))
        self.assertEqual((None, None), (prove(SCHEMA, JOIN, SWAPPED, 0), fewest_steps(SCHEMA, JOIN, SWAPPED, 0)))
        for most in range(5):
            self.assertEqual((Proof(()), 0), (prove(SCHEMA, JOIN, JOIN, most), fewest_steps(SCHEMA, JOIN, JOIN, most)))
        # Back: the join inside is swapped, two keeps become one, and it is left out.
        self.assertEqual([None, None, None, 3, 3], [fewest_steps(SCHEMA, SWAPPED, JOIN, most) for most in range(5)])
        # Equal, but no rule brings a filter with fewer values.
        self.assertIs(are_equal(SCHEMA, ("filter", 0, (), ONE), low(("filter", 0, (1,), ONE))), True)
        self.assertEqual(1, fewest_steps(SCHEMA, low(("filter", 0, (1,), ONE)), ("filter", 0, (), ONE), 4))
        self.assertIsNone(prove(SCHEMA, ("filter", 0, (), ONE), low(("filter", 0, (1,), ONE)), 4))
        self.assertIsNone(prove(SCHEMA, ONE, low(ONE), 4))

    def test_what_is_reached_twice_counts_once(self):
        self.assertEqual([1, 1, 1], [count_reached(SCHEMA, ("both", ONE, ONE), most) for most in range(3)])
        self.assertEqual([1, 2, 2], [count_reached(SCHEMA, ("both", ONE, low(ONE)), most) for most in range(3)])
        self.assertEqual([1, 1], [count_reached(SCHEMA, PAIR, most) for most in (0, 4)])
        self.assertEqual([1, 2, 3], [count_reached(SCHEMA, joined(ONE, ONE), most) for most in range(3)])

    def test_long_searches_end(self):
        self.assertEqual([1, 11, 69, 317, 1203], [count_reached(SCHEMA, CHAIN, most) for most in range(5)])
        self.assertEqual(317, len(algebra.reached(SCHEMA, RULES, CHAIN, 3)))


class Limit(Case):

    def check(self, expression, most, reached):
        """So many expressions are reached, or too many."""
        self.assertEqual(reached, len(algebra.reached(SCHEMA, RULES, expression, most)))
        other = low(PAIR) if algebra.width(SCHEMA, expression) == 2 else joined(*[ONE] * algebra.width(SCHEMA, expression))
        if reached > 2000:
            self.assert_fault(count_reached, (SCHEMA, expression, most), TooLarge)
            for call in (prove, fewest_steps):
                self.assert_fault(call, (SCHEMA, expression, other, most), TooLarge)
                # Too large whatever is to be proved.
                self.assert_fault(call, (SCHEMA, expression, expression, most), TooLarge)
        else:
            self.assertEqual(reached, count_reached(SCHEMA, expression, most))
            self.assertEqual(0, fewest_steps(SCHEMA, expression, expression, most))
            self.assertIsNone(prove(SCHEMA, expression, other, most))

    def test_just_2000(self):
        high = ("filter", 2, (1,), ("join", PAIR, ("filter", 0, (0, 1), ONE)))
        inner = ("filter", 2, (0,), ("same", 1, 2, ("join", ONE, ("same", 0, 2, high))))
        self.check(("filter", 4, (1,), ("join", inner, ONE)), 4, 2000)
        self.check(BEYOND, 4, 2001)

    def test_only_the_first_expression_counts(self):
        large, small = BEYOND, low(PAIR)
        self.assert_fault(count_reached, (SCHEMA, large, 4), TooLarge)
        self.assert_fault(prove, (SCHEMA, large, large, 4), TooLarge)
        self.assertIsNone(prove(SCHEMA, small, large, 4))
        self.assertEqual(None, fewest_steps(SCHEMA, large, small, 1))


class Proofs(Case):

    def test_shows(self):
        one, other = low(("filter", 0, (0, 1), ONE)), low(ONE)
        for steps, right in [
            ([("all values", (0,))], True), ((("all values", (0,)),), True), ([["all values", (0,)]], True),
            ([("all values", ())], False), ([("all values", (0, 0))], False), ([("all values", (1,))], False), ([("all values", (False,))], False),
            ([("merge filters", ())], True), ([("merge", ())], False), ([("", ())], False), ([("swap join", ())], False), ([], False),
            ([("merge filters", ()), ("all values", ())], False), ([("exchange conditions", ()), ("all values", ())], True),
            ([("exchange conditions", ())] * 8 + [("merge filters", ())], True), ([("all values", (0,)), ("all values", (0,))], False),
            ([("all values", (0,)), ("merge filters", ())], False),
        ]:
            self.assertIs(Proof(steps).shows(SCHEMA, one, other), right, steps)
        self.assertIs(Proof(()).shows(SCHEMA, one, one), True)
        self.assertIs(Proof([("exchange conditions", ())] * 2).shows(SCHEMA, one, one), True)
        self.assertIs(Proof([("exchange conditions", ())]).shows(SCHEMA, one, one), False)
        self.assertIs(Proof([("swap both", (1,))]).shows(SCHEMA, ("join", ONE, ("both", ONE, ONE)), ("join", ONE, ("both", ONE, ONE))), True)
        self.assertIs(Proof([("swap both", (True,))]).shows(SCHEMA, ("join", ONE, ("both", ONE, ONE)), ("join", ONE, ("both", ONE, ONE))), False)

    def test_shows_what_is_too_large_in_between(self):
        # A swap makes a word more, and there are no more than 16.
        long = joined(*[ONE] * 8)
        back = [("swap join", ()), ("swap join", (0,)), ("keep once", ()), ("keep nothing away", ())]
        self.assertIs(Proof(back[:1]).shows(SCHEMA, long, rewrite(SCHEMA, long, "swap join", ())), True)
        self.assertIs(Proof(back).shows(SCHEMA, long, long), False)
        self.assertIs(Proof(back).shows(SCHEMA, joined(*[ONE] * 7), joined(*[ONE] * 7)), True)

    def test_current_steps(self):
        proof = prove(SCHEMA, JOIN, SWAPPED, 1)
        proof.steps = [["swap join", ()]]
        self.assertIs(proof.shows(SCHEMA, JOIN, SWAPPED), True)
        self.assertEqual(1, len(proof))
        proof.steps = ()
        self.assertIs(proof.shows(SCHEMA, JOIN, SWAPPED), False)
        self.assertIs(proof.shows(SCHEMA, JOIN, JOIN), True)

    def test_steps_are_tuples(self):
        told = [["swap join", ()], ("all values", (0,))]
        proof = Proof(told)
        told[0][0] = "swap both"
        self.assertEqual((("swap join", ()), ("all values", (0,))), proof.steps)
        self.assertEqual(2, len(proof))
        self.assertEqual((0, ()), (len(Proof([])), Proof([]).steps))

    def test_equality(self):
        one = Proof([("swap join", ())])
        self.assert_equality((one, Proof((["swap join", ()],))), [Proof(()), Proof([("swap join", (0,))]), Proof([("swap both", ())])])

    def test_errors(self):
        wrong = ("table", 2)
        for call in (prove, fewest_steps):
            self.assert_error_order(call, (SCHEMA, JOIN, SWAPPED, 2), [
                Fault(BadSchema, {0: DATA}), Fault(BadExpression, {1: wrong}), Fault(BadExpression, {2: wrong}), Fault(Unlike, {2: ONE}),
                Fault(BadNumber, {3: 5}),
            ])
            self.assert_refused(call, (SCHEMA, JOIN, SWAPPED, 2), 3, odd_except(), BadNumber)
            self.assert_refused(call, (SCHEMA, JOIN, SWAPPED, 2), 3, (-1, 5, 6), BadNumber)
        self.assert_error_order(count_reached, (SCHEMA, JOIN, 2), [
            Fault(BadSchema, {0: None}), Fault(BadExpression, {1: wrong}), Fault(BadNumber, {2: -1}),
        ])
        self.assert_refused(count_reached, (SCHEMA, JOIN, 2), 2, odd_except() + [5, -1], BadNumber)
        self.assert_error_order(Proof(()).shows, (SCHEMA, JOIN, SWAPPED), [
            Fault(BadSchema, {0: None}), Fault(BadExpression, {1: wrong}), Fault(BadExpression, {2: wrong}), Fault(Unlike, {2: ONE}),
        ])
        for call, more in ((prove, (2,)), (fewest_steps, (2,)), (Proof(()).shows, ())):
            self.assert_refused(call, (SCHEMA, ONE, ONE) + more, 0, odd_except(Schema), BadSchema)
            self.assert_refused(call, (SCHEMA, ONE, ONE) + more, 1, WRONG, BadExpression)
            self.assert_refused(call, (SCHEMA, ONE, ONE) + more, 2, WRONG, BadExpression)
        self.assert_refused(count_reached, (SCHEMA, ONE, 1), 1, WRONG, BadExpression)
        self.assertEqual(5, count_reached(Schema(3, (2, 1)), joined(PAIR, ONE), 3))
