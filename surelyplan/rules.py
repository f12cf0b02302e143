"""Rules that rewrite expressions without a change of any answer."""

from surelyplan.errors import NotPossible
from surelyplan.expressions import CONDITIONS, condition_columns, move_condition, need_expression
from surelyplan.forests import Forest, inner_numbers, with_inner
from surelyplan.plain import is_between
from surelyplan.schemas import need_schema

RULES = (
    "all values", "collect", "distribute", "exchange conditions", "into both", "into keep", "keep nothing away",
    "keep once", "keep sides", "lift first", "lift second", "merge filters", "out of both", "out of keep",
    "push first", "push second", "swap both", "swap join", "turn left", "turn right",
)
# The words of the expressions that each rule rewrites.
WORDS = {
    "all values": ("filter",),
    "collect": ("both",),
    "distribute": ("join",),
    "exchange conditions": ("filter", "same"),
    "into both": ("filter", "same", "keep"),
    "into keep": ("filter", "same"),
    "keep nothing away": ("keep",),
    "keep once": ("keep",),
    "keep sides": ("keep",),
    "lift first": ("join",),
    "lift second": ("join",),
    "merge filters": ("filter",),
    "out of both": ("both",),
    "out of keep": ("keep",),
    "push first": ("filter", "same"),
    "push second": ("filter", "same"),
    "swap both": ("both",),
    "swap join": ("join",),
    "turn left": ("join",),
    "turn right": ("join",),
}


def _inside(forest, node, step, words):
    """Return the node of an expression in a node, if it has one of some words, and otherwise None."""
    inner = forest.nodes[inner_numbers(node)[step]]
    return inner if inner[0] in words else None


def _swap_join(forest, node):
    many, more = forest.widths[node[1]], forest.widths[node[2]]
    order = tuple(range(more, more + many)) + tuple(range(more))
    return ("keep", order, forest.number_of(("join", node[2], node[1])))


def _turn_right(forest, node):
    first = _inside(forest, node, 0, ("join",))
    if first is None:
        return None
    return ("join", first[1], forest.number_of(("join", first[2], node[2])))


def _turn_left(forest, node):
    second = _inside(forest, node, 1, ("join",))
    if second is None:
        return None
    return ("join", forest.number_of(("join", node[1], second[1])), second[2])


def _merge_filters(forest, node):
    inner = _inside(forest, node, 0, ("filter",))
    if inner is None or inner[1] != node[1]:
        return None
    return ("filter", node[1], tuple([value for value in node[2] if value in inner[2]]), inner[3])


def _exchange_conditions(forest, node):
    inner = _inside(forest, node, 0, CONDITIONS)
    if inner is None:
        return None
    return inner[:3] + (forest.number_of(node[:3] + inner[3:]),)


def _push_first(forest, node):
    inner = _inside(forest, node, 0, ("join",))
    if inner is None or max(condition_columns(node)) >= forest.widths[inner[1]]:
        return None
    return ("join", forest.number_of(node[:3] + (inner[1],)), inner[2])


def _push_second(forest, node):
    inner = _inside(forest, node, 0, ("join",))
    if inner is None or min(condition_columns(node)) < forest.widths[inner[1]]:
        return None
    many = forest.widths[inner[1]]
    places = [column - many for column in range(many + forest.widths[inner[2]])]
    return ("join", inner[1], forest.number_of(move_condition(node, places) + (inner[2],)))


def _lift_first(forest, node):
    inner = _inside(forest, node, 0, CONDITIONS)
    if inner is None:
        return None
    return inner[:3] + (forest.number_of(("join", inner[3], node[2])),)


def _lift_second(forest, node):
    inner = _inside(forest, node, 1, CONDITIONS)
    if inner is None:
        return None
    many = forest.widths[node[1]]
    places = [column + many for column in range(forest.widths[inner[3]])]
    return move_condition(inner, places) + (forest.number_of(("join", node[1], inner[3])),)


def _into_both(forest, node):
    inner = _inside(forest, node, 0, ("both",))
    if inner is None:
        return None
    return ("both", forest.number_of(node[:-1] + (inner[1],)), forest.number_of(node[:-1] + (inner[2],)))


def _out_of_both(forest, node):
    first = _inside(forest, node, 0, CONDITIONS + ("keep",))
    second = _inside(forest, node, 1, CONDITIONS + ("keep",))
    if first is None or second is None or first[:-1] != second[:-1]:
        return None
    if forest.widths[first[-1]] != forest.widths[second[-1]]:
        return None
    return first[:-1] + (forest.number_of(("both", first[-1], second[-1])),)


def _into_keep(forest, node):
    inner = _inside(forest, node, 0, ("keep",))
    if inner is None:
        return None
    return ("keep", inner[1], forest.number_of(move_condition(node, inner[1]) + (inner[2],)))


def _out_of_keep(forest, node):
    inner = _inside(forest, node, 0, CONDITIONS)
    if inner is None or not all([column in node[1] for column in condition_columns(inner)]):
        return None
    places = {column: place for place, column in enumerate(node[1])}
    return move_condition(inner, places) + (forest.number_of(("keep", node[1], inner[3])),)


def _keep_once(forest, node):
    inner = _inside(forest, node, 0, ("keep",))
    if inner is None:
        return None
    return ("keep", tuple([inner[1][place] for place in node[1]]), inner[2])


def _keep_nothing_away(forest, node):
    if node[1] != tuple(range(forest.widths[node[2]])):
        return None
    return forest.nodes[node[2]]


def _keep_sides(forest, node):
    inner = _inside(forest, node, 0, ("join",))
    if inner is None:
        return None
    many = forest.widths[inner[1]]
    sides = [column >= many for column in node[1]]
    if sides != sorted(sides):
        return None
    first = tuple([column for column in node[1] if column < many])
    second = tuple([column - many for column in node[1] if column >= many])
    return ("join", forest.number_of(("keep", first, inner[1])), forest.number_of(("keep", second, inner[2])))


def _distribute(forest, node):
    first = _inside(forest, node, 0, ("both",))
    if first is None:
        return None
    return ("both", forest.number_of(("join", first[1], node[2])), forest.number_of(("join", first[2], node[2])))


def _collect(forest, node):
    first, second = _inside(forest, node, 0, ("join",)), _inside(forest, node, 1, ("join",))
    if first is None or second is None or first[2] != second[2]:
        return None
    if forest.widths[first[1]] != forest.widths[second[1]]:
        return None
    return ("join", forest.number_of(("both", first[1], second[1])), first[2])


def _swap_both(forest, node):
    return ("both", node[2], node[1])


def _all_values(forest, node):
    if node[2] != tuple(range(forest.schema.size)):
        return None
    return forest.nodes[node[3]]


# For each rule the function from a forest and the node of an expression to the node of the result, or to None.
ACTIONS = {
    "all values": _all_values,
    "collect": _collect,
    "distribute": _distribute,
    "exchange conditions": _exchange_conditions,
    "into both": _into_both,
    "into keep": _into_keep,
    "keep nothing away": _keep_nothing_away,
    "keep once": _keep_once,
    "keep sides": _keep_sides,
    "lift first": _lift_first,
    "lift second": _lift_second,
    "merge filters": _merge_filters,
    "out of both": _out_of_both,
    "out of keep": _out_of_keep,
    "push first": _push_first,
    "push second": _push_second,
    "swap both": _swap_both,
    "swap join": _swap_join,
    "turn left": _turn_left,
    "turn right": _turn_right,
}


def rewrite(schema, expression, rule, path):
    """Return the expression that results from a rule at a path."""
    need_schema(schema)
    need_expression(schema, expression)
    result = None
    forest = Forest(schema)
    if isinstance(rule, str) and rule in ACTIONS and isinstance(path, tuple):
        result = use_rule(forest, forest.planted(expression), rule, path)
    if result is None or not forest.is_small(result):
        raise NotPossible("the rule cannot be used there")
    return forest.grown(result)


def possible_steps(schema, expression):
    """Return the ascending list of all pairs of a rule and a path at which it can be used."""
    need_schema(schema)
    need_expression(schema, expression)
    forest = Forest(schema)
    steps = steps_from(forest, forest.planted(expression))
    return sorted([(rule, path) for rule, path, result in steps if forest.is_small(result)])


def use_rule(forest, number, rule, path):
    """Return the number of what results from a rule at a path, or None if it cannot be used there."""
    node = forest.nodes[number]
    if path == ():
        return _use_outside(forest, node, rule)
    inner = inner_numbers(node)
    if not is_between(path[0], 0, len(inner) - 1):
        return None
    result = use_rule(forest, inner[path[0]], rule, path[1:])
    return None if result is None else forest.number_of(with_inner(node, path[0], result))


def steps_from(forest, number):
    """Return the list of triples of a rule, a path and the number of the result, also of results that are too large."""
    if number not in forest.found_steps:
        node = forest.nodes[number]
        results = [(rule, (), _use_outside(forest, node, rule)) for rule in RULES]
        steps = [step for step in results if step[2] is not None]
        for place, inner in enumerate(inner_numbers(node)):
            for rule, path, result in steps_from(forest, inner):
                steps.append((rule, (place,) + path, forest.number_of(with_inner(node, place, result))))
        forest.found_steps[number] = steps
    return forest.found_steps[number]


def _use_outside(forest, node, rule):
    """Return the number of what results from a rule, used at an expression itself, or None."""
    if node[0] not in WORDS[rule]:
        return None
    action = ACTIONS[rule]
    result = action(forest, node)
    return None if result is None else forest.number_of(result)
