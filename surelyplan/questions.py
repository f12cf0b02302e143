"""Questions for the values of quantities, and as few of them as possible until one table is left."""

from surelyplan.errors import BadQuantity, TooLarge
from surelyplan.networks import list_counts, network_of
from surelyplan.notes import all_quantities, cells_about, is_quantity
from surelyplan.plain import is_integer
from surelyplan.schemas import need_table
from surelyplan.statistics import all_tables, need_statistics

MOST_ASKED = 60


class Asked:
    """A tree of questions, as low as possible, after which at most one table is left."""

    def __init__(self, tree):
        self.tree = _copy_tree(tree)

    def __eq__(self, other):
        return isinstance(other, Asked) and self.tree == other.tree

    def shows(self, stats, table):
        """Return whether the tree asks until at most one table is left, and no tree is lower."""
        search = _search_for(stats, table)
        return search.is_tree(self.tree, search.everything, search.height())


class Search:
    """A search for the lowest tree; agreeing tables go by their indices, quantities by their places in a list."""

    def __init__(self, stats, table, tables):
        self.schema = stats.schema
        self.table = table
        self.quantities = all_quantities(stats.schema, table)
        self.answers = [_values_of(stats, table, quantity, tables) for quantity in self.quantities]
        self.everything = tuple(range(len(tables)))
        self.found = {}

    def parts_of(self, left, place):
        """Return a dict from the values that a quantity has in the tables that are left, to these tables."""
        values = self.answers[place]
        parts = {}
        for index in left:
            parts.setdefault(values[index], []).append(index)
        return {value: tuple(parts[value]) for value in sorted(parts)}

    def height(self):
        """Return the height of a lowest tree for all tables."""
        height = 0
        while not self.is_enough(self.everything, height):
            height += 1
        return height

    def is_enough(self, left, height):
        """Return whether some tree for the tables that are left is not higher."""
        return len(left) <= 1 or height > 0 and self.question(left, height) is not None

    def question(self, left, height):
        """Return the place of a quantity after which lower trees are enough, or None."""
        if (left, height) not in self.found:
            self.found[(left, height)] = self._find_question(left, height)
        return self.found[(left, height)]

    def build(self, left, height):
        """Return a tree for the tables that are left, if one of this height is enough."""
        if len(left) <= 1:
            return None
        place = self.question(left, height)
        parts = self.parts_of(left, place)
        return self.quantities[place], {value: self.build(parts[value], height - 1) for value in parts}

    def is_tree(self, tree, left, height):
        """Return whether a value is a tree for the tables that are left, and not higher."""
        if len(left) <= 1:
            return tree is None
        if height == 0 or tree is None or not is_quantity(self.schema, self.table, tree[0]):
            return False
        parts = self.parts_of(left, self.quantities.index(tree[0]))
        if len(parts) != len(tree[1]) or not all([is_integer(value) and value in parts for value in tree[1]]):
            return False
        return all([self.is_tree(tree[1][value], parts[value], height - 1) for value in parts])

    def _find_question(self, left, height):
        splits = []
        for place in range(len(self.quantities)):
            parts = list(self.parts_of(left, place).values())
            if len(parts) > 1:
                splits.append((max([len(part) for part in parts]), place, parts))
        if _most_leaves([len(split[2]) for split in splits], height) >= len(left):
            for _, place, parts in sorted(splits):
                if self._are_enough(parts, height - 1):
                    return place
        return None

    def _are_enough(self, parts, height):
        # Large parts come first, since they are the ones for which the height may be too small.
        for _, part in sorted([(-len(part), part) for part in parts]):
            if not self.is_enough(part, height):
                return False
        return True


def left_after(stats, table, quantity):
    """Return a dict from the values of a quantity in agreeing tables to the numbers of these tables."""
    need_statistics(stats)
    need_table(stats.schema, table)
    if not is_quantity(stats.schema, table, quantity):
        raise BadQuantity("not a quantity of the table")
    return _numbers_of(_values_of(stats, table, quantity, all_tables(stats, table)))


def best_questions(stats, table):
    """Return the list of the quantities after which the greatest number of tables that can be left is smallest."""
    tables = all_tables(stats, table)
    quantities = all_quantities(stats.schema, table)
    most = [_greatest_of(_numbers_of(_values_of(stats, table, quantity, tables))) for quantity in quantities]
    return [quantity for quantity, number in zip(quantities, most) if number == min(most)]


def ask(stats, table):
    """Return an `Asked`."""
    search = _search_for(stats, table)
    return Asked(search.build(search.everything, search.height()))


def fewest_questions(stats, table):
    """Return the height of the tree of an `Asked`."""
    return _search_for(stats, table).height()


def _search_for(stats, table):
    need_statistics(stats)
    need_table(stats.schema, table)
    tables = list_counts(network_of(stats, table), MOST_ASKED)
    if len(tables) > MOST_ASKED:
        raise TooLarge("more than 60 tables agree")
    return Search(stats, table, tables)


def _values_of(stats, table, quantity, tables):
    """Return the list of the values of a quantity in some tables."""
    places = cells_about(stats.schema, table, quantity)
    return [sum([counts[place] for place in places]) for counts in tables]


def _numbers_of(values):
    """Return a dict from values, ascending, to how often they occur."""
    numbers = {}
    for value in sorted(values):
        numbers[value] = numbers.get(value, 0) + 1
    return numbers


def _greatest_of(numbers):
    return max([0] + list(numbers.values()))


def _most_leaves(parts, height):
    """Return how many leaves a tree has at most if its questions have so many answers; none is asked twice."""
    leaves = 1
    for many in sorted(parts)[-height:]:
        leaves *= many
    return leaves


def _copy_tree(tree):
    """Return a tree with new dicts."""
    if tree is None:
        return None
    quantity, parts = tree
    return quantity, {value: _copy_tree(parts[value]) for value in parts}
