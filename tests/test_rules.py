"""[33] Rules."""

from surelyplan.errors import BadExpression, BadSchema, NotPossible
from surelyplan.expressions import evaluate
from surelyplan.polynomials import polynomials
from surelyplan.rules import RULES, possible_steps, rewrite
from surelyplan.schemas import Schema
from tests import algebra
from tests.checks import DATA, SCHEMA, Case, Fault, odd_except
from tests.random_cases import chance_of, draw_data
from tests.test_expressions import JOIN, ONE, PAIR, WRONG, joined, nested

NAMES = (
    "swap join", "turn right", "turn left", "merge filters", "exchange conditions", "push first", "push second", "lift first",
    "lift second", "into both", "out of both", "into keep", "out of keep", "keep once", "keep nothing away", "keep sides",
    "distribute", "collect", "swap both", "all values",
)
# The rules that lead back from what others lead to, if no keep of all columns is left out.
BACK = {
    "turn right": "turn left", "push first": "lift first", "push second": "lift second", "into both": "out of both",
    "into keep": "out of keep", "distribute": "collect", "swap both": "swap both", "exchange conditions": "exchange conditions",
}
BACK.update({back: rule for rule, back in BACK.items()})


def low(e):
    return ("filter", 0, (0,), e)


def same(e):
    return ("same", 0, 1, e)


# For each rule expressions with what it makes of them.
DONE = {
    "swap join": [
        (JOIN, ("keep", (1, 2, 0), ("join", ONE, PAIR))), (("join", ONE, ONE), ("keep", (1, 0), ("join", ONE, ONE))),
        (("join", ("keep", (), ONE), PAIR), ("keep", (0, 1), ("join", PAIR, ("keep", (), ONE)))),
        (("join", ("keep", (), ONE), ("keep", (), PAIR)), ("keep", (), ("join", ("keep", (), PAIR), ("keep", (), ONE)))),
    ],
    "turn right": [(joined(PAIR, ONE, low(ONE)), ("join", PAIR, ("join", ONE, low(ONE))))],
    "turn left": [(("join", low(ONE), JOIN), ("join", ("join", low(ONE), PAIR), ONE))],
    "merge filters": [
        (low(("filter", 0, (0, 1), PAIR)), low(PAIR)), (low(("filter", 0, (1,), PAIR)), ("filter", 0, (), PAIR)),
        (low(low(same(PAIR))), low(same(PAIR))), (("filter", 1, (0, 1), ("filter", 1, (0, 1), PAIR)), ("filter", 1, (0, 1), PAIR)),
    ],
    "exchange conditions": [
        (low(same(PAIR)), same(low(PAIR))), (low(("filter", 1, (), PAIR)), ("filter", 1, (), low(PAIR))), (low(low(ONE)), low(low(ONE))),
        (("same", 0, 2, ("same", 0, 1, JOIN)), ("same", 0, 1, ("same", 0, 2, JOIN))),
    ],
    "push first": [
        (low(JOIN), ("join", low(PAIR), ONE)), (("filter", 1, (1,), JOIN), ("join", ("filter", 1, (1,), PAIR), ONE)),
        (same(JOIN), ("join", same(PAIR), ONE)),
    ],
    "push second": [
        (("filter", 2, (1,), JOIN), ("join", PAIR, ("filter", 0, (1,), ONE))), (("same", 1, 2, ("join", ONE, PAIR)), ("join", ONE, same(PAIR))),
        (("filter", 0, (), ("join", ("keep", (), ONE), ONE)), ("join", ("keep", (), ONE), ("filter", 0, (), ONE))),
    ],
    "lift first": [(("join", low(PAIR), ONE), low(JOIN)), (("join", same(PAIR), low(ONE)), same(("join", PAIR, low(ONE))))],
    "lift second": [
        (("join", PAIR, low(ONE)), ("filter", 2, (0,), JOIN)), (("join", ONE, same(PAIR)), ("same", 1, 2, ("join", ONE, PAIR))),
        (("join", ("keep", (), ONE), same(PAIR)), same(("join", ("keep", (), ONE), PAIR))),
    ],
    "into both": [
        (low(("both", ONE, ONE)), ("both", low(ONE), low(ONE))), (same(("both", PAIR, low(PAIR))), ("both", same(PAIR), same(low(PAIR)))),
        (("keep", (1,), ("both", PAIR, PAIR)), ("both", ("keep", (1,), PAIR), ("keep", (1,), PAIR))),
        (("keep", (), ("both", ONE, ONE)), ("both", ("keep", (), ONE), ("keep", (), ONE))),
    ],
    "out of both": [
        (("both", low(ONE), low(ONE)), low(("both", ONE, ONE))), (("both", same(PAIR), same(low(PAIR))), same(("both", PAIR, low(PAIR)))),
        (("both", ("keep", (1, 0), PAIR), ("keep", (1, 0), same(PAIR))), ("keep", (1, 0), ("both", PAIR, same(PAIR)))),
    ],
    "into keep": [
        (low(("keep", (2, 0), JOIN)), ("keep", (2, 0), ("filter", 2, (0,), JOIN))),
        (same(("keep", (2, 0), JOIN)), ("keep", (2, 0), ("same", 0, 2, JOIN))), (same(("keep", (0, 2), JOIN)), ("keep", (0, 2), ("same", 0, 2, JOIN))),
    ],
    "out of keep": [
        (("keep", (2, 0), ("filter", 2, (0,), JOIN)), low(("keep", (2, 0), JOIN))), (("keep", (1, 0), same(PAIR)), same(("keep", (1, 0), PAIR))),
        (("keep", (2, 1, 0), ("same", 0, 2, JOIN)), ("same", 0, 2, ("keep", (2, 1, 0), JOIN))),
    ],
    "keep once": [
        (("keep", (1,), ("keep", (2, 0), JOIN)), ("keep", (0,), JOIN)), (("keep", (), ("keep", (1,), PAIR)), ("keep", (), PAIR)),
        (("keep", (2, 0, 1), ("keep", (2, 0, 1), JOIN)), ("keep", (1, 2, 0), JOIN)), (("keep", (), ("keep", (), ONE)), ("keep", (), ONE)),
    ],
    "keep nothing away": [
        (("keep", (0, 1), PAIR), PAIR), (("keep", (0,), ONE), ONE), (("keep", (), ("keep", (), ONE)), ("keep", (), ONE)),
        (("keep", (0, 1, 2), JOIN), JOIN),
    ],
    "keep sides": [
        (("keep", (1, 2), JOIN), ("join", ("keep", (1,), PAIR), ("keep", (0,), ONE))),
        (("keep", (1, 0), JOIN), ("join", ("keep", (1, 0), PAIR), ("keep", (), ONE))),
        (("keep", (2,), JOIN), ("join", ("keep", (), PAIR), ("keep", (0,), ONE))),
        (("keep", (), JOIN), ("join", ("keep", (), PAIR), ("keep", (), ONE))),
        (("keep", (2, 1), ("join", ONE, PAIR)), ("join", ("keep", (), ONE), ("keep", (1, 0), PAIR))),
        (("keep", (0, 1, 2), JOIN), ("join", ("keep", (0, 1), PAIR), ("keep", (0,), ONE))),
    ],
    "distribute": [(("join", ("both", ONE, low(ONE)), PAIR), ("both", ("join", ONE, PAIR), ("join", low(ONE), PAIR)))],
    "collect": [(("both", ("join", ONE, PAIR), ("join", low(ONE), PAIR)), ("join", ("both", ONE, low(ONE)), PAIR))],
    "swap both": [(("both", ONE, low(ONE)), ("both", low(ONE), ONE)), (("both", ONE, ONE), ("both", ONE, ONE))],
    "all values": [(("filter", 0, (0, 1), ONE), ONE), (("filter", 1, (0, 1), low(PAIR)), low(PAIR))],
}
# For each rule expressions at the outside of which it cannot be used, though not much is missing.
NOT = {
    "swap join": [("both", ONE, ONE), low(JOIN)],
    "turn right": [("join", PAIR, JOIN), JOIN, ("both", joined(ONE, ONE), PAIR), ("join", low(JOIN), ONE)],
    "turn left": [joined(PAIR, ONE, ONE), JOIN, ("both", PAIR, joined(ONE, ONE))],
    "merge filters": [low(("filter", 1, (0,), PAIR)), low(same(PAIR)), low(ONE), low(("keep", (0,), low(ONE)))],
    "exchange conditions": [low(PAIR), low(("keep", (0,), low(PAIR))), ("keep", (0,), low(PAIR)), ("both", low(ONE), low(ONE))],
    "push first": [("filter", 2, (0,), JOIN), ("same", 1, 2, JOIN), ("same", 0, 2, JOIN), ("keep", (0,), JOIN), low(PAIR),
                   ("filter", 0, (), ("join", ("keep", (), ONE), ONE))],
    "push second": [("filter", 1, (0,), JOIN), ("same", 1, 2, JOIN), ("same", 0, 1, JOIN), ("same", 0, 1, ("join", ONE, PAIR)), low(PAIR)],
    "lift first": [("join", PAIR, low(ONE)), ("both", low(ONE), ONE), ("join", ("keep", (0,), PAIR), ONE)],
    "lift second": [("join", low(PAIR), ONE), ("both", ONE, low(ONE)), JOIN],
    "into both": [("both", ONE, ONE), low(("join", ONE, ONE)), ("keep", (0,), PAIR), low(low(("both", ONE, ONE)))],
    "out of both": [
        ("both", low(ONE), ONE), ("both", ONE, ONE), ("both", low(ONE), ("filter", 0, (1,), ONE)), ("both", low(PAIR), ("filter", 1, (0,), PAIR)),
        ("both", ("keep", (0,), PAIR), ("keep", (0,), ONE)), ("both", ("keep", (0,), PAIR), ("keep", (1,), PAIR)), ("join", low(ONE), low(ONE)),
        ("both", ("keep", (), PAIR), ("keep", (), ONE)), ("both", joined(ONE, ONE), joined(ONE, ONE)),
    ],
    "into keep": [low(PAIR), ("keep", (0,), ("keep", (0,), PAIR)), ("keep", (0,), low(PAIR))],
    "out of keep": [
        ("keep", (1,), low(PAIR)), ("keep", (0,), same(PAIR)), ("keep", (1,), same(PAIR)), ("keep", (), low(ONE)), ("keep", (0,), ONE),
        low(("keep", (0,), ONE)), ("keep", (0, 1), ("same", 1, 2, JOIN)),
    ],
    "keep once": [("keep", (0,), PAIR), ("keep", (0,), low(("keep", (0,), ONE))), low(("keep", (0,), ONE))],
    "keep nothing away": [("keep", (1, 0), PAIR), ("keep", (0,), PAIR), ("keep", (), ONE), low(ONE)],
    "keep sides": [("keep", (2, 0), JOIN), ("keep", (0, 2, 1), JOIN), ("keep", (0,), PAIR), ("keep", (0,), low(JOIN)), low(JOIN)],
    "distribute": [("join", PAIR, ("both", ONE, ONE)), ("both", ("both", ONE, ONE), ONE), JOIN],
    "collect": [
        ("both", ("join", PAIR, ONE), ("join", PAIR, low(ONE))), ("both", ("join", PAIR, ONE), ("join", ("join", ONE, ONE), low(ONE))),
        ("both", ("join", ONE, ONE), PAIR), ("both", PAIR, ("join", ONE, ONE)), ("both", ONE, ONE),
        ("join", ("join", ONE, ONE), ("join", ONE, ONE)),
    ],
    "swap both": [("join", ONE, ONE), low(("both", ONE, ONE))],
    "all values": [low(ONE), ("filter", 0, (), ONE), ("filter", 0, (1,), ONE), same(PAIR), ("keep", (0, 1), PAIR)],
}


class Results(Case):

    def test_names(self):
        self.assertIsInstance(RULES, tuple)
        self.assertEqual(tuple(sorted(NAMES)), RULES)
        self.assertEqual((set(NAMES), set(NAMES)), (set(DONE), set(NOT)))

    def test_each_rule_at_the_outside(self):
        for rule, cases in DONE.items():
            for expression, wanted in cases:
                self.assertEqual(wanted, rewrite(SCHEMA, expression, rule, ()), (rule, expression))
                self.assertIn((rule, ()), possible_steps(SCHEMA, expression))

    def test_each_rule_at_inner_paths(self):
        for rule, cases in DONE.items():
            for expression, wanted in cases:
                for path, outside in [
                    ((0,), lambda e: ("keep", (), e)), ((0,), lambda e: ("join", e, ONE)), ((1,), lambda e: ("join", ONE, e)),
                    ((1, 0), lambda e: ("both", ("keep", (), PAIR), ("keep", (), e))), ((0, 1), lambda e: ("join", ("join", ONE, e), ONE)),
                ]:
                    self.assertEqual(outside(wanted), rewrite(SCHEMA, outside(expression), rule, path), (rule, expression))
                    self.assertIn((rule, path), possible_steps(SCHEMA, outside(expression)))

    def test_each_rule_where_it_cannot_be_used(self):
        for rule, cases in NOT.items():
            for expression in cases:
                self.assert_fault(rewrite, (SCHEMA, expression, rule, ()), NotPossible)
                self.assert_fault(rewrite, (SCHEMA, ("keep", (), expression), rule, (0,)), NotPossible)
                self.assertNotIn((rule, ()), possible_steps(SCHEMA, expression), expression)

    def test_rules_that_lead_back(self):
        for rule, back in BACK.items():
            for expression, wanted in DONE[rule]:
                if rule not in ("exchange conditions",) or expression != wanted:
                    self.assertEqual(expression, rewrite(SCHEMA, wanted, back, ()), (rule, expression))
        for expression, wanted in DONE["swap join"]:
            again = rewrite(SCHEMA, wanted, "swap join", (0,))
            self.assertEqual(("keep", tuple(range(algebra.width(SCHEMA, expression))), expression), rewrite(SCHEMA, again, "keep once", ()))

    def test_all_schemas(self):
        six = Schema(6, (1,))
        for many in range(7):
            expression = ("filter", 0, tuple(range(many)), ("table", 0))
            self.assertEqual([("all values", ())] if many == 6 else [], possible_steps(six, expression))

    def test_results_with_too_many_words(self):
        long, short = nested(JOIN, 13), nested(JOIN, 12)
        self.assertEqual((16, 15), (algebra.words(long), algebra.words(short)))
        path = (0,) * 12
        self.assert_fault(rewrite, (SCHEMA, long, "swap join", path + (0,)), NotPossible)
        self.assertEqual(16, algebra.words(rewrite(SCHEMA, short, "swap join", path)))
        for rule, one in [
            ("into both", low(("both", ONE, ONE))), ("into both", ("keep", (0,), ("both", ONE, ONE))), ("swap join", ("join", ONE, ONE)),
            ("keep sides", ("keep", (0,), ("join", ONE, ONE))), ("distribute", ("join", ("both", ONE, ONE), ONE)),
        ]:
            more = algebra.words(rewrite(SCHEMA, one, rule, ())) - algebra.words(one)
            self.assertTrue(more > 0)
            for words in range(10, 17):
                around = words - algebra.words(one)
                expression, path = nested(one, around, ()), (0,) * around
                if words + more <= 16:
                    self.assertEqual(words + more, algebra.words(rewrite(SCHEMA, expression, rule, path)))
                    self.assertIn((rule, path), possible_steps(SCHEMA, expression))
                else:
                    self.assert_fault(rewrite, (SCHEMA, expression, rule, path), NotPossible)
                    self.assertNotIn((rule, path), possible_steps(SCHEMA, expression))

    def test_eight_columns_stay_eight(self):
        chance = chance_of(330)
        for _ in range(60):
            expression = algebra.some(chance, SCHEMA, 14, 8, 20000)
            for rule, path in possible_steps(SCHEMA, expression):
                self.assertTrue(algebra.is_allowed(SCHEMA, rewrite(SCHEMA, expression, rule, path)))


class Steps(Case):

    def check(self, schema, expression):
        wanted = algebra.results(schema, NAMES, expression)
        self.assertEqual(list(wanted), possible_steps(schema, expression), expression)
        for (rule, path), result in wanted.items():
            self.assertEqual(result, rewrite(schema, expression, rule, path), (rule, path, expression))
        return wanted

    def test_expressions_by_chance(self):
        chance = chance_of(331)
        used = set()
        for case in range(250):
            schema = (SCHEMA, Schema(3, (1, 2)))[case % 2]
            expression = algebra.some(chance, schema, 13)
            wanted = self.check(schema, expression)
            used |= {(rule, path != ()) for rule, path in wanted}
            for rule, path in list(wanted)[:2]:
                used |= {(rule, path != ()) for rule, path in self.check(schema, wanted[rule, path])}
        self.assertEqual(40, len(used))

    def test_no_rule_changes_an_answer(self):
        chance = chance_of(332)
        for _ in range(80):
            expression = algebra.some(chance, SCHEMA, 9, 5, 300)
            data = draw_data(chance, SCHEMA, 3)
            for rule, path in possible_steps(SCHEMA, expression):
                result = rewrite(SCHEMA, expression, rule, path)
                self.assertEqual(polynomials(SCHEMA, expression), polynomials(SCHEMA, result), (rule, path, expression))
                self.assertEqual(list(evaluate(data, expression).items()), list(evaluate(data, result).items()))

    def test_what_cannot_be_used(self):
        expression = ("join", low(("both", ONE, ONE)), PAIR)
        self.assertEqual(("join", ("both", low(ONE), low(ONE)), PAIR), rewrite(SCHEMA, expression, "into both", (0,)))
        for path in [
            (), (1,), (2,), (-1,), (0, 0), (0, 1), (0, 0, 0), (0, 0, 1), (0, 0, 2), (0, 0, 0, 0), (1, 0), (1, 1), [0], [], 0, None, "0", "",
            (False,), (None,), ("0",), ((0,),), ([],), {0: 0}, (0, True), b"0", (True,), {0}, range(1), (0,) * 2000, (0, None), (object(),),
        ]:
            self.assert_fault(rewrite, (SCHEMA, expression, "into both", path), NotPossible)
        self.assertEqual(expression[:1] + (low(("both", ONE, ONE)), PAIR), rewrite(SCHEMA, expression, "swap both", (0, 0)))
        for path in ((0, False), (False, 0), (0, 0, False), (False,)):
            self.assert_fault(rewrite, (SCHEMA, expression, "swap both", path), NotPossible)
        self.assert_fault(rewrite, (SCHEMA, ("join", PAIR, JOIN), "swap join", (True,)), NotPossible)
        for rule in odd_except() + ["into  both", "INTO BOTH", "intoboth", "into both ", ("into both",), ["into both"], b"into both"]:
            self.assert_fault(rewrite, (SCHEMA, expression, rule, (0,)), NotPossible)

    def test_nothing_to_do(self):
        for expression in (ONE, PAIR, low(ONE), same(PAIR), ("keep", (1, 0), PAIR)):
            self.assertEqual([], possible_steps(SCHEMA, expression))
        self.assert_new_each_time(lambda: possible_steps(SCHEMA, JOIN), lambda steps: steps.clear())

    def test_errors(self):
        wrong = ("table", 2)
        self.assert_error_order(rewrite, (SCHEMA, JOIN, "swap join", ()), [
            Fault(BadSchema, {0: DATA}), Fault(BadExpression, {1: wrong}), Fault(NotPossible, {2: "swap"}), Fault(NotPossible, {3: (0,)}),
        ])
        self.assert_error_order(possible_steps, (SCHEMA, JOIN), [Fault(BadSchema, {0: DATA}), Fault(BadExpression, {1: wrong})])
        for call, good in ((rewrite, (SCHEMA, JOIN, "swap join", ())), (possible_steps, (SCHEMA, JOIN))):
            self.assert_refused(call, good, 0, odd_except(Schema), BadSchema)
            self.assert_refused(call, good, 1, WRONG, BadExpression)
