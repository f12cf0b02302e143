"""Proofs that expressions are equal: as few steps of rules as possible from one to the other one."""

from surelyplan.errors import BadNumber, TooLarge
from surelyplan.expressions import need_expression, need_two
from surelyplan.forests import Forest
from surelyplan.plain import is_between
from surelyplan.rules import ACTIONS, steps_from, use_rule
from surelyplan.schemas import need_schema

MOST_STEPS = 4
MOST_REACHED = 2000


class Proof:
    """Steps, pairs of a rule and a path, that lead from one expression to another one."""

    def __init__(self, steps):
        self.steps = tuple([tuple(step) for step in steps])

    def __eq__(self, other):
        return isinstance(other, Proof) and self.steps == other.steps

    def __len__(self):
        return len(self.steps)

    def shows(self, schema, one, other):
        """Return whether the steps lead from one expression to the other one."""
        need_two(schema, one, other)
        forest = Forest(schema)
        number = forest.planted(one)
        for rule, path in self.steps:
            if rule not in ACTIONS:
                return False
            number = use_rule(forest, number, rule, path)
            if number is None or not forest.is_small(number):
                return False
        return number == forest.planted(other)


def prove(schema, one, other, most):
    """Return a `Proof` with as few steps as possible, or None if there is none with at most so many."""
    need_two(schema, one, other)
    _need_steps(most)
    forest = Forest(schema)
    origins = _origins(forest, forest.planted(one), most)
    number = forest.planted(other)
    if number not in origins:
        return None
    steps = []
    while origins[number] is not None:
        number, rule, path = origins[number]
        steps.append((rule, path))
    return Proof(steps[::-1])


def fewest_steps(schema, one, other, most):
    """Return the length of a shortest proof, or None if there is none with at most so many steps."""
    proof = prove(schema, one, other, most)
    return None if proof is None else len(proof)


def count_reached(schema, expression, most):
    """Return the number of expressions that at most so many steps lead to, with the expression itself."""
    need_schema(schema)
    need_expression(schema, expression)
    _need_steps(most)
    forest = Forest(schema)
    return len(_origins(forest, forest.planted(expression), most))


def _need_steps(most):
    if not is_between(most, 0, MOST_STEPS):
        raise BadNumber("not an integer from 0 to 4")


def _origins(forest, first, most):
    """Return a dict from the numbers of all reached expressions to how each one was first reached.

    That is a triple of the expression before it, the rule and the path; it is None for the first expression.
    """
    origins = {first: None}
    newest = [first]
    for _ in range(most):
        reached = []
        for number in newest:
            for rule, path, result in steps_from(forest, number):
                if result not in origins and forest.is_small(result):
                    origins[result] = (number, rule, path)
                    reached.append(result)
            if len(origins) > MOST_REACHED:
                raise TooLarge("more than 2000 expressions are reached")
        newest = reached
    return origins
