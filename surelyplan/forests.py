"""Expressions as numbered nodes, so that equal ones have the same number and are looked at once."""

from surelyplan.expressions import CONDITIONS, MOST_WORDS


class Forest:
    """Expressions for a schema: lists of their nodes, in which inner expressions stand by their numbers.

    A node is an expression with numbers in place of the expressions in it; it is a key of a dict, which a deeply
    nested expression cannot be. `widths` and `sizes` have the numbers of columns and of words.
    """

    def __init__(self, schema):
        self.schema = schema
        self.nodes = []
        self.widths = []
        self.sizes = []
        self.numbers = {}
        self.found_steps = {}

    def number_of(self, node):
        """Return the number of a node, a new one if the node is new."""
        if node not in self.numbers:
            inner = inner_numbers(node)
            self.numbers[node] = len(self.nodes)
            self.nodes.append(node)
            self.widths.append(self._width_of(node, inner))
            self.sizes.append(1 + sum([self.sizes[number] for number in inner]))
        return self.numbers[node]

    def planted(self, expression):
        """Return the number of an expression."""
        if expression[0] == "table":
            return self.number_of(expression)
        first = inner_place(expression)
        return self.number_of(expression[:first] + tuple([self.planted(inner) for inner in expression[first:]]))

    def grown(self, number):
        """Return the expression with a number."""
        node = self.nodes[number]
        if node[0] == "table":
            return node
        first = inner_place(node)
        return node[:first] + tuple([self.grown(inner) for inner in node[first:]])

    def is_small(self, number):
        """Return whether an expression has no more words than are allowed."""
        return self.sizes[number] <= MOST_WORDS

    def _width_of(self, node, inner):
        if node[0] == "table":
            return self.schema.widths[node[1]]
        if node[0] == "keep":
            return len(node[1])
        if node[0] == "join":
            return self.widths[inner[0]] + self.widths[inner[1]]
        return self.widths[inner[0]]


def inner_place(node):
    """Return the index of the first expression in an expression, or its length if there is none."""
    if node[0] in CONDITIONS:
        return 3
    if node[0] in ("join", "both"):
        return 1
    return 2


def inner_numbers(node):
    """Return the tuple of the numbers of the expressions in a node."""
    return node[inner_place(node):]


def with_inner(node, step, number):
    """Return a node with another expression in it: the first one for step 0, the second one for step 1."""
    place = inner_place(node) + step
    return node[:place] + (number,) + node[place + 1:]
