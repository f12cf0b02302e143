"""What the document says of expressions, polynomials and rules, over lists of single rows: slow, and of its own."""

from collections import Counter
from itertools import product

from tests import oracle

CONDITIONS = ("filter", "same")
KINDS = ("filter", "same", "keep", "join", "both")


def inners(e):
    """The expressions in an expression."""
    return e[1:] if e[0] in ("join", "both") else () if e[0] == "table" else e[-1:]


def with_inner(e, step, inner):
    parts = list(inners(e))
    parts[step] = inner
    return e[:len(e) - len(parts)] + tuple(parts)


def words(e):
    return 1 + sum(words(inner) for inner in inners(e))


def width(schema, e):
    if e[0] == "table":
        return schema.widths[e[1]]
    if e[0] == "keep":
        return len(e[1])
    if e[0] == "join":
        return width(schema, e[1]) + width(schema, e[2])
    return width(schema, inners(e)[0])


def widest(schema, e):
    return max([width(schema, e)] + [widest(schema, inner) for inner in inners(e)])


def is_allowed(schema, e):
    """Whether what is built of right parts has not too many words and columns."""
    return words(e) <= 16 and widest(schema, e) <= 8


def rows(schema, e):
    """The list of pairs of a row and a term: one for each way in which rows of tables make a row."""
    if e[0] == "table":
        return [(cell, ((e[1], cell),)) for cell in oracle.cells(schema, e[1])]
    found = rows(schema, inners(e)[0])
    if e[0] == "filter":
        return [(row, term) for row, term in found if row[e[1]] in e[2]]
    if e[0] == "same":
        return [(row, term) for row, term in found if row[e[1]] == row[e[2]]]
    if e[0] == "keep":
        return [(tuple(row[column] for column in e[1]), term) for row, term in found]
    more = rows(schema, e[2])
    if e[0] == "both":
        return found + more
    return [(row + other, term + factors) for (row, term), (other, factors) in product(found, more)]


def polynomials(schema, e):
    many = Counter((row, tuple(sorted(term))) for row, term in rows(schema, e))
    found = {}
    for row, term in sorted(many):
        found.setdefault(row, {})[term] = many[row, term]
    return found


def biggest(schema, e):
    """The greatest number of terms of a keep, a both or a join in an expression."""
    mine = len({(row, tuple(sorted(term))) for row, term in rows(schema, e)}) if e[0] in ("keep", "both", "join") else 0
    return max([mine] + [biggest(schema, inner) for inner in inners(e)])


def value(terms, data):
    total = 0
    for term, factor in terms.items():
        for table, cell in term:
            factor *= data.count_of(table, cell)
        total += factor
    return total


def answer(data, e):
    """The answer, from the counts of all rows of the tables."""
    sums = Counter()
    for row, term in rows(data.schema, e):
        count = 1
        for table, cell in term:
            count *= data.count_of(table, cell)
        sums[row] += count
    return [(row, sums[row]) for row in sorted(sums) if sums[row] > 0]


def moved(condition, place):
    """A condition whose columns are changed by a function."""
    if condition[0] == "filter":
        return ("filter", place(condition[1]), condition[2])
    return ("same", *sorted((place(condition[1]), place(condition[2]))))


def used(condition):
    return condition[1:2] if condition[0] == "filter" else condition[1:3]


def use_on_join(schema, rule, e):
    a, b = e[1:]
    n, m = width(schema, a), width(schema, b)
    if rule == "swap join":
        return ("keep", (*range(m, m + n), *range(m)), ("join", b, a))
    if rule == "turn right" and a[0] == "join":
        return ("join", a[1], ("join", a[2], b))
    if rule == "turn left" and b[0] == "join":
        return ("join", ("join", a, b[1]), b[2])
    if rule == "lift first" and a[0] in CONDITIONS:
        return (*a[:3], ("join", a[3], b))
    if rule == "lift second" and b[0] in CONDITIONS:
        return (*moved(b[:3], lambda column: column + n), ("join", a, b[3]))
    if rule == "distribute" and a[0] == "both":
        return ("both", ("join", a[1], b), ("join", a[2], b))
    return None


def use_on_both(schema, rule, e):
    a, b = e[1:]
    if rule == "swap both":
        return ("both", b, a)
    if rule == "out of both" and a[0] in CONDITIONS + ("keep",) and a[:-1] == b[:-1]:
        if width(schema, a[-1]) == width(schema, b[-1]):
            return (*a[:-1], ("both", a[-1], b[-1]))
    if rule == "collect" and a[0] == b[0] == "join" and a[2] == b[2]:
        if width(schema, a[1]) == width(schema, b[1]):
            return ("join", ("both", a[1], b[1]), a[2])
    return None


def use_on_condition(schema, rule, e):
    inner, condition = e[3], e[:3]
    if rule == "all values" and e[0] == "filter" and list(e[2]) == list(range(schema.size)):
        return inner
    if rule == "merge filters" and e[0] == inner[0] == "filter" and e[1] == inner[1]:
        return ("filter", e[1], tuple(sorted(set(e[2]) & set(inner[2]))), inner[3])
    if rule == "exchange conditions" and inner[0] in CONDITIONS:
        return (*inner[:3], (*condition, inner[3]))
    if rule == "into both" and inner[0] == "both":
        return ("both", (*condition, inner[1]), (*condition, inner[2]))
    if rule == "into keep" and inner[0] == "keep":
        return ("keep", inner[1], (*moved(condition, lambda column: inner[1][column]), inner[2]))
    if inner[0] == "join":
        n = width(schema, inner[1])
        if rule == "push first" and all(column < n for column in used(condition)):
            return ("join", (*condition, inner[1]), inner[2])
        if rule == "push second" and all(column >= n for column in used(condition)):
            return ("join", inner[1], (*moved(condition, lambda column: column - n), inner[2]))
    return None


def use_on_keep(schema, rule, e):
    kept, inner = e[1:]
    if rule == "keep nothing away" and list(kept) == list(range(width(schema, inner))):
        return inner
    if rule == "keep once" and inner[0] == "keep":
        return ("keep", tuple(inner[1][column] for column in kept), inner[2])
    if rule == "into both" and inner[0] == "both":
        return ("both", ("keep", kept, inner[1]), ("keep", kept, inner[2]))
    if rule == "out of keep" and inner[0] in CONDITIONS and set(used(inner)) <= set(kept):
        return (*moved(inner[:3], kept.index), ("keep", kept, inner[3]))
    if rule == "keep sides" and inner[0] == "join":
        n = width(schema, inner[1])
        first = [column for column in kept if column < n]
        second = [column for column in kept if column >= n]
        if first + second == list(kept):
            less = tuple(column - n for column in second)
            return ("join", ("keep", tuple(first), inner[1]), ("keep", less, inner[2]))
    return None


USES = {"filter": use_on_condition, "same": use_on_condition, "keep": use_on_keep, "join": use_on_join, "both": use_on_both}


def use(schema, rule, path, e):
    """What results from a rule at a path, or None; it may be too large."""
    if path:
        inner = use(schema, rule, path[1:], inners(e)[path[0]])
        return None if inner is None else with_inner(e, path[0], inner)
    return USES[e[0]](schema, rule, e) if e[0] in USES else None


def paths(e):
    """All paths to an expression and those in it."""
    return [()] + [(step, *path) for step, inner in enumerate(inners(e)) for path in paths(inner)]


def results(schema, rules, e):
    """A dict from all pairs of a rule and a path at which it can be used to the results."""
    found = {(rule, path): use(schema, rule, path, e) for rule in rules for path in paths(e)}
    return {step: found[step] for step in sorted(found) if found[step] is not None and is_allowed(schema, found[step])}


def reached(schema, rules, e, most):
    """A dict from all expressions that at most so many steps lead to, to the least number of steps."""
    found = {e: 0}
    for many in range(1, most + 1):
        for last in [other for other in found if found[other] == many - 1]:
            for result in results(schema, rules, last).values():
                found.setdefault(result, many)
    return found


def some(chance, schema, most_words, most_columns=8, most_rows=2000):
    """An expression that is drawn by chance, with about so many words and columns."""
    while True:
        drawn = draw(chance, schema, chance.randint(1, most_words), most_columns)
        if drawn is not None and is_allowed(schema, drawn) and len(rows(schema, drawn)) <= most_rows:
            return drawn


def draw(chance, schema, most_words, most_columns):
    """An expression that may be too large, or None."""
    tables = [table for table in range(len(schema.widths)) if schema.widths[table] <= most_columns]
    if most_words == 1 or chance.random() < 0.1:
        return ("table", chance.choice(tables)) if tables else None
    kind = chance.choice(KINDS)
    if kind in ("join", "both"):
        if most_words < 3:
            return draw(chance, schema, 1, most_columns)
        first = draw(chance, schema, chance.randint(1, most_words - 2), most_columns)
        if kind == "both" or first is None:
            return draw_both(chance, schema, first)
        second = draw(chance, schema, most_words - 1 - words(first), most_columns - width(schema, first))
        return first if second is None else ("join", first, second)
    inner = draw(chance, schema, most_words - 1, 8 if kind == "keep" else most_columns)
    return inner and draw_on(chance, schema, kind, inner, most_columns)


def draw_on(chance, schema, kind, inner, most_columns):
    many = width(schema, inner)
    if kind == "keep":
        return ("keep", tuple(chance.sample(range(many), chance.randint(0, min(many, most_columns)))), inner)
    if kind == "filter" and many > 0:
        values = tuple(value for value in range(schema.size) if chance.random() < 0.7)
        return ("filter", chance.randrange(many), values, inner)
    if kind == "same" and many > 1:
        return ("same", *sorted(chance.sample(range(many), 2)), inner)
    return inner


def draw_both(chance, schema, first):
    """Two expressions with the same number of columns, the second one much like the first one."""
    if first is None:
        return None
    second = first
    for kind in chance.sample(("filter", "same"), chance.randint(0, 2)):
        second = draw_on(chance, schema, kind, second, 8)
    return ("both", first, second) if words(first) + words(second) < 16 else first
