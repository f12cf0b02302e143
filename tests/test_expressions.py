"""[31] Expressions."""

from itertools import permutations

from surelyplan.errors import BadData, BadExpression, BadQuery, BadSchema, TooLarge
from surelyplan.expressions import columns, evaluate, expression_of
from surelyplan.queries import Query, answer
from surelyplan.schemas import Data, Schema
from tests import algebra
from tests.checks import DATA, QUERY, SCHEMA, STATS, Case, Fault, odd_except
from tests.random_cases import any_schema, chance_of, draw_data, draw_query

PAIR, ONE = ("table", 0), ("table", 1)
JOIN = ("join", PAIR, ONE)
FIVE = Schema(2, (2, 1, 1))


def joined(*expressions):
    """The join of some expressions, from left to right."""
    whole = expressions[0]
    for expression in expressions[1:]:
        whole = ("join", whole, expression)
    return whole


def nested(expression, many, values=(0,)):
    """An expression with so many filters around it."""
    for _ in range(many):
        expression = ("filter", 0, values, expression)
    return expression


class Loud:
    """Complains if it is looked at closely."""

    __hash__ = None

    def __eq__(self, other):
        raise AssertionError("looked at")


# What is no expression for SCHEMA, with tables of two columns and of one, and the values 0 and 1.
WRONG = [
    ("table",), ("table", 2), ("table", -1), ("table", True), ("table", False), ("table", None), ("table", "0"), ("table", 0, 0),
    ("table", (0,)), ("table", [0]), ["table", 0], ("tables", 0), ("Table", 0), (0, 0), (None, 0), (b"table", 0), ("", 0),
    (("table", 0),), ("table", Loud()), (Loud(), 0), (["table"], 0), Loud(), (("table",), 0), "table", ("join",), ("rows", 0),
    ("filter", 0, (0,)), ("filter", 0, (0,), PAIR, PAIR), ("filter", 2, (0,), PAIR), ("filter", -1, (0,), PAIR),
    ("filter", True, (0,), PAIR), ("filter", False, (0,), PAIR), ("filter", None, (0,), PAIR), ("filter", (0,), (0,), PAIR),
    ("filter", 0, [0], PAIR), ("filter", 0, 0, PAIR), ("filter", 0, None, PAIR), ("filter", 0, (1, 0), PAIR),
    ("filter", 0, (0, 0), PAIR), ("filter", 0, (0, 2), PAIR), ("filter", 0, (-1, 0), PAIR), ("filter", 0, (True,), PAIR),
    ("filter", 0, (False, 1), PAIR), ("filter", 0, (0, True), PAIR), ("filter", 0, ("0",), PAIR), ("filter", 0, ([0],), PAIR),
    ("filter", 0, {0: 1}, PAIR), ("filter", 0, {0}, PAIR), ("filter", 0, (None,), PAIR), ("filter", 0, (Loud(),), PAIR),
    ("filter", 0, (0,), list(PAIR)), ("filter", 0, (0,), None), ("filter", 0, (0,), 0), ("filter", 0, (), ("keep", (), PAIR)),
    ("filter", PAIR, 0, (0,)), ("filter", 0, (0,), ("table", 2)),
    ("same", 0, 1), ("same", 0, 1, PAIR, PAIR), ("same", 1, 0, PAIR), ("same", 0, 0, PAIR), ("same", 1, 1, PAIR),
    ("same", 0, 2, PAIR), ("same", -1, 1, PAIR), ("same", False, 1, PAIR), ("same", 0, True, PAIR), ("same", 0, 1, ONE),
    ("same", 0, None, PAIR), ("same", None, 1, PAIR), ("same", (0,), (1,), PAIR), ("same", [0], 1, PAIR), ("same", (0, 1), PAIR),
    ("same", "0", "1", PAIR), ("same", Loud(), 1, PAIR), ("same", 0, Loud(), PAIR), ("same", 0, 1, list(PAIR)),
    ("keep", (0,)), ("keep", (0,), PAIR, PAIR), ("keep", [0], PAIR), ("keep", 0, PAIR), ("keep", None, PAIR), ("keep", (2,), PAIR),
    ("keep", (0, 0), PAIR), ("keep", (0, 1, 0), PAIR), ("keep", (-1,), PAIR), ("keep", (True,), PAIR), ("keep", (False, 1), PAIR),
    ("keep", (0, True), PAIR), ("keep", ("0",), PAIR), ("keep", ((0,),), PAIR), ("keep", ([0],), PAIR), ("keep", {}, PAIR),
    ("keep", (Loud(),), PAIR), ("keep", (0,), ("keep", (), PAIR)), ("keep", (1,), ONE), ("keep", (0,), list(PAIR)),
    ("keep", (0,), None), ("keep", PAIR, (0,)), ("keep", (), ("table", 2)), ("keep", "", PAIR),
    ("join", PAIR), ("join", PAIR, PAIR, PAIR), ("join", PAIR, list(ONE)), ("join", list(PAIR), ONE), ("join", PAIR, None),
    ("join", None, PAIR), ("join", (PAIR, ONE)), ("join", PAIR, ("table", 2)), ("join", ("table", 2), PAIR), ["join", PAIR, ONE],
    ("both", PAIR), ("both", PAIR, PAIR, PAIR), ("both", PAIR, ONE), ("both", ONE, PAIR), ("both", ONE, JOIN), ("both", PAIR, None),
    ("both", ("keep", (), ONE), ONE), ("both", list(ONE), ONE), ("both", ONE, list(ONE)), ("both", ONE, ("table", 5)),
]


class Forms(Case):

    def test_each_word(self):
        for many, expression in [
            (2, PAIR), (1, ONE), (2, ("filter", 1, (0, 1), PAIR)), (2, ("filter", 0, (), PAIR)), (2, ("same", 0, 1, PAIR)),
            (1, ("keep", (1,), PAIR)), (2, ("keep", (1, 0), PAIR)), (0, ("keep", (), PAIR)), (3, JOIN), (2, ("join", ONE, ONE)),
            (0, ("join", ("keep", (), ONE), ("keep", (), PAIR))), (2, ("both", PAIR, ("join", ONE, ONE))), (1, ("both", ONE, ONE)),
            (0, ("both", ("keep", (), ONE), ("keep", (), PAIR))), (0, ("keep", (), ("keep", (), PAIR))),
            (3, ("same", 0, 2, JOIN)), (3, ("same", 1, 2, JOIN)), (3, ("keep", (2, 0, 1), JOIN)),
        ]:
            self.assertEqual(many, columns(SCHEMA, expression))

    def test_what_is_no_expression(self):
        for wrong in WRONG + odd_except():
            for call, first in ((columns, SCHEMA), (evaluate, DATA)):
                self.assert_fault(call, (first, wrong), BadExpression)
                for outside in (("keep", (), wrong), ("join", ONE, wrong), ("both", wrong, wrong), ("filter", 0, (), wrong)):
                    self.assert_fault(call, (first, outside), BadExpression)

    def test_just_sixteen_words(self):
        most = nested(ONE, 15)
        self.assertEqual((16, 1), (algebra.words(most), columns(SCHEMA, most)))
        self.assertEqual({(0,): 1}, evaluate(DATA, most))
        flat = ("keep", (0,), joined(*[ONE] * 8))
        self.assertEqual((16, 1), (algebra.words(flat), columns(SCHEMA, flat)))
        self.assertEqual({(0,): 3 ** 7, (1,): 2 * 3 ** 7}, evaluate(DATA, flat))
        wide = ("both", joined(*[PAIR] * 4), joined(("filter", 0, (1,), PAIR), PAIR, PAIR, PAIR))
        self.assertEqual((16, 8), (algebra.words(wide), columns(SCHEMA, wide)))
        left = ("both", nested(ONE, 6), nested(ONE, 7))
        self.assertEqual((16, 1), (algebra.words(left), columns(SCHEMA, left)))

    def test_seventeen_words(self):
        for more in (
            nested(ONE, 16), ("keep", (0,), nested(ONE, 15)), ("keep", (), ("keep", (0,), joined(*[ONE] * 8))),
            ("both", nested(ONE, 7), nested(ONE, 7)), ("both", nested(ONE, 14), ONE), ("both", ONE, nested(ONE, 14)),
            ("join", nested(ONE, 7), nested(ONE, 7)), ("both", joined(*[PAIR] * 4), ("filter", 0, (1,), nested(joined(*[PAIR] * 4), 1))),
        ):
            self.assertTrue(algebra.words(more) > 16)
            self.assert_fault(columns, (SCHEMA, more), BadExpression)
            self.assert_fault(evaluate, (DATA, more), BadExpression)

    def test_values_without_end(self):
        deep = ONE
        for _ in range(100000):
            deep = ("keep", (0,), deep)
        wide = ONE
        for _ in range(1000):
            wide = ("both", wide, wide)
        for value in (deep, wide, nested(ONE, 5000), ("join", deep, wide)):
            self.assert_fault(columns, (SCHEMA, value), BadExpression)
            self.assert_fault(evaluate, (DATA, value), BadExpression)

    def test_just_eight_columns(self):
        self.assertEqual(8, columns(SCHEMA, joined(PAIR, PAIR, PAIR, PAIR)))
        self.assertEqual(8, columns(SCHEMA, joined(PAIR, PAIR, PAIR, ONE, ONE)))
        self.assertEqual(8, columns(SCHEMA, ("join", ("keep", (), joined(PAIR, PAIR, PAIR, PAIR)), joined(PAIR, PAIR, PAIR, PAIR))))
        inside = ("join", ("keep", (7,), joined(PAIR, PAIR, PAIR, PAIR)), JOIN)
        self.assertEqual(4, columns(SCHEMA, inside))

    def test_nine_columns(self):
        nine = joined(PAIR, PAIR, PAIR, PAIR, ONE)
        for more in (
            nine, joined(ONE, PAIR, PAIR, PAIR, PAIR), ("join", joined(PAIR, PAIR, ONE), ("join", PAIR, PAIR)),
            ("keep", (0,), nine), ("keep", (), nine), ("join", ("keep", (), nine), ONE), ("filter", 0, (), nine),
            ("both", ("keep", (), nine), ("keep", (), ONE)),
        ):
            self.assert_fault(columns, (SCHEMA, more), BadExpression)
            self.assert_fault(evaluate, (DATA, more), BadExpression)

    def test_what_the_schema_has(self):
        self.assert_fault(columns, (SCHEMA, ("table", 2)), BadExpression)
        self.assertEqual(1, columns(FIVE, ("table", 2)))
        self.assert_fault(columns, (SCHEMA, ("filter", 0, (2,), PAIR)), BadExpression)
        self.assertEqual(2, columns(Schema(3, (2,)), ("filter", 0, (2,), PAIR)))
        self.assert_fault(columns, (Schema(2, (1, 2)), ("same", 0, 1, PAIR)), BadExpression)


class Answers(Case):

    def test_each_word(self):
        for expression, wanted in [
            (PAIR, {(0, 0): 1, (0, 1): 1, (1, 1): 1}), (ONE, {(0,): 1, (1,): 2}),
            (("filter", 1, (1,), PAIR), {(0, 1): 1, (1, 1): 1}), (("filter", 0, (), PAIR), {}),
            (("filter", 0, (0, 1), ONE), {(0,): 1, (1,): 2}), (("same", 0, 1, PAIR), {(0, 0): 1, (1, 1): 1}),
            (("keep", (1,), PAIR), {(0,): 1, (1,): 2}), (("keep", (1, 0), PAIR), {(0, 0): 1, (1, 0): 1, (1, 1): 1}),
            (("keep", (), PAIR), {(): 3}), (("keep", (), ("filter", 0, (), PAIR)), {}),
            (("join", ONE, ONE), {(0, 0): 1, (0, 1): 2, (1, 0): 2, (1, 1): 4}),
            (("join", ("keep", (), ONE), ONE), {(0,): 3, (1,): 6}), (("join", ONE, ("filter", 0, (), ONE)), {}),
            (("both", ONE, ONE), {(0,): 2, (1,): 4}), (("both", ("filter", 0, (1,), ONE), ONE), {(0,): 1, (1,): 4}),
            (("both", ("keep", (0,), PAIR), ONE), {(0,): 3, (1,): 3}), (("both", ("keep", (), ONE), ("keep", (), PAIR)), {(): 6}),
        ]:
            self.assertEqual(list(wanted.items()), list(evaluate(DATA, expression).items()), expression)

    def test_against_single_rows(self):
        chance = chance_of(310)
        kinds, sizes = set(), []
        while len(sizes) < 400:
            schema = any_schema(chance, 3, 3)
            expression = algebra.some(chance, schema, 11, 6, 8000)
            data = draw_data(chance, schema, chance.choice((1, 3, 9)))
            found = evaluate(data, expression)
            self.assertEqual(algebra.answer(data, expression), list(found.items()), expression)
            self.assertEqual(algebra.width(schema, expression), columns(schema, expression))
            sizes.append(len(found))
            kinds.add(expression[0])
        self.assertEqual(6, len(kinds))
        self.assertTrue(sizes.count(0) > 20 and len([size for size in sizes if size > 3]) > 100)

    def test_conditions_and_kept_columns_far_outside(self):
        chance = chance_of(311)
        for _ in range(200):
            schema = Schema(chance.choice((2, 3)), (2, 1))
            tables = [chance.choice((PAIR, ONE)) for _ in range(chance.randint(2, 4))]
            expression = joined(*tables)
            for _ in range(chance.randint(1, 5)):
                kind = chance.choice(("filter", "same", "same", "keep"))
                expression = algebra.draw_on(chance, schema, kind, expression, 8)
            data = draw_data(chance, schema, 2)
            self.assertEqual(algebra.answer(data, expression), list(evaluate(data, expression).items()), expression)

    def test_many_columns_and_values_are_quick(self):
        schema = Schema(6, (2, 1))
        data = Data(schema, [[9] * 36, [1] * 6])
        whole = joined(PAIR, PAIR, PAIR, PAIR)
        self.assertEqual({(): 324 ** 4}, evaluate(data, ("keep", (), whole)))
        self.assertEqual({(value,): 54 * 324 ** 3 for value in range(6)}, evaluate(data, ("keep", (5,), whole)))
        chain = ("keep", (7, 0), ("same", 5, 6, ("same", 3, 4, ("same", 1, 2, whole))))
        self.assertEqual({(a, b): 9 ** 4 * 6 ** 3 for a in range(6) for b in range(6)}, evaluate(data, chain))
        few = ("filter", 7, (3,), ("filter", 0, (1, 2), ("filter", 4, (), whole)))
        self.assertEqual({}, evaluate(data, few))
        # Fewer values where all rows are wanted, for they need much room.
        less = Data(Schema(4, (2, 1)), [[9] * 16, [1] * 4])
        found = evaluate(less, joined(*[ONE] * 8))
        self.assertEqual((4 ** 8, (0,) * 8, (3,) * 8), (len(found), list(found)[0], list(found)[-1]))
        turned = evaluate(less, ("keep", (6, 7, 5, 4, 2, 3, 1, 0), whole))
        self.assertEqual((4 ** 8, {9 ** 4}), (len(turned), set(turned.values())))
        self.assertEqual([(0,) * 7 + (value,) for value in range(4)], list(turned)[:4])

    def test_columns_in_any_order(self):
        chance = chance_of(313)
        data = draw_data(chance, Schema(3, (2, 1)), 2)
        whole = joined(PAIR, ONE, PAIR)
        for order in permutations(range(5)):
            expression = ("keep", order[:chance.randint(3, 5)], whole)
            self.assertEqual(algebra.answer(data, expression), list(evaluate(data, expression).items()))
            expression = ("keep", order[:4], ("same", 0, 3, whole))
            self.assertEqual(algebra.answer(data, expression), list(evaluate(data, expression).items()))


class Queries(Case):

    def test_order_of_the_words(self):
        query = Query(SCHEMA, ((0, (1, 0)), (1, (1,)), (0, (2, 2))), ((0, (1,)), (2, ())), (2, 0))
        join = joined(PAIR, ONE, PAIR)
        sames = ("same", 3, 4, ("same", 0, 2, join))
        self.assertEqual(("keep", (3, 1), ("filter", 3, (), ("filter", 1, (1,), sames))), expression_of(query))
        self.assertEqual(("keep", (), ("table", 0)), expression_of(Query(SCHEMA, ((0, (0, 1)),), (), ())))
        thrice = Query(SCHEMA, ((0, (0, 0)), (1, (0,))), ((0, (0, 1)),), (0,))
        wanted = ("keep", (0,), ("filter", 0, (0, 1), ("same", 0, 2, ("same", 0, 1, JOIN))))
        self.assertEqual(wanted, expression_of(thrice))

    def test_same_answer_as_the_query(self):
        chance = chance_of(312)
        twice, empty, none = 0, 0, 0
        for _ in range(300):
            schema = any_schema(chance, 4, 4)
            query, data = draw_query(chance, schema, 4, 5), draw_data(chance, schema, 3)
            expression = expression_of(query)
            self.assertTrue(algebra.is_allowed(schema, expression))
            self.assertEqual(list(answer(query, data).items()), list(evaluate(data, expression).items()))
            twice += any(len(set(inner)) < len(inner) for _, inner in query.atoms)
            empty += any(values == () for _, values in query.filters)
            none += query.shown == ()
        self.assertTrue(twice > 50 and empty > 10 and none > 30)

    def test_as_many_words_as_there_can_be(self):
        # Four atoms, three joins and a keep; and for each of eight columns a condition at most: never 17 words.
        schema = Schema(2, (2,))
        ring = ((0, (0, 1)), (0, (1, 2)), (0, (2, 3)), (0, (3, 0)))
        filters = tuple((variable, (0, 1)) for variable in range(4))
        self.assertEqual(16, algebra.words(expression_of(Query(schema, ring, filters, ()))))
        tight = ((0, (0, 1)), (0, (1, 2)), (0, (2, 0)), (0, (0, 2)))
        self.assertEqual(16, algebra.words(expression_of(Query(schema, tight, filters[:3], (1,)))))
        five = ((0, (0, 1)), (0, (1, 0)), (0, (0, 0)), (0, (1, 1)))
        self.assertEqual(16, algebra.words(expression_of(Query(schema, five, filters[:2], ()))))
        six = ((0, (0, 1)), (0, (2, 3)), (0, (4, 5)), (0, (0, 2)))
        more = tuple((variable, ()) for variable in range(6))
        self.assertEqual(16, algebra.words(expression_of(Query(schema, six, more, ()))))
        self.assertEqual(8, algebra.words(expression_of(Query(schema, six[:3], more[:2], ()))))

    def test_errors(self):
        self.assert_error_order(columns, (SCHEMA, JOIN), [
            Fault(BadSchema, {0: None}), Fault(BadExpression, {1: ("table", 2)}),
        ])
        self.assert_error_order(evaluate, (DATA, JOIN), [
            Fault(BadData, {0: SCHEMA}, table=None), Fault(BadExpression, {1: ("table", 2)}),
        ])
        self.assert_refused(columns, (SCHEMA, JOIN), 0, odd_except(Schema), BadSchema)
        self.assert_refused(evaluate, (DATA, JOIN), 0, odd_except(Data), BadData, table=None)
        self.assert_refused(expression_of, (QUERY,), 0, odd_except(Query) + [JOIN, STATS], BadQuery, part=None)
