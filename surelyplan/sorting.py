"""Sorting with little memory: first runs, and orders of merges that move as few rows as possible."""

from surelyplan.errors import BadMemory, BadRows
from surelyplan.plain import are_between, is_between, is_integer, is_sequence

MOST_ROWS = 60
GREATEST_ROW = 9999
MOST_RUNS = 12
LEAST_MEMORY = 3
MOST_MEMORY = 8


class Merging:
    """An order of merges: the index of a run, or a tuple of such orders that are merged at once."""

    def __init__(self, tree):
        self.tree = tree

    def __eq__(self, other):
        return isinstance(other, Merging) and self.tree == other.tree

    def shows(self, lengths, fan):
        """Return whether the order has each run exactly once, and moves as few rows as possible."""
        least = least_moved(lengths, fan)
        if not _is_tree(self.tree, fan, len(lengths)):
            return False
        runs = _runs_of(self.tree)
        if not are_between(runs, 0, len(lengths) - 1) or sorted(runs) != list(range(len(lengths))):
            return False
        return _moved_by(self.tree, lengths) == least


def first_runs(rows, memory):
    """Return the list of the sorted runs into which fillings of the memory turn rows."""
    _need_rows(rows, 0, MOST_ROWS, 0, GREATEST_ROW)
    need_memory(memory)
    return [sorted(rows[start:start + memory]) for start in range(0, len(rows), memory)]


def sort_rows(rows, memory):
    """Return the pair of the sorted list of rows, and the number of rows that sorting moves."""
    _need_rows(rows, 0, MOST_ROWS, 0, GREATEST_ROW)
    return sorted(rows), sort_cost(len(rows), memory)


def sort_cost(many, memory):
    """Return the number of rows that sorting so many rows moves."""
    if not is_between(many, 0, MOST_ROWS):
        raise BadRows("not an integer from 0 to 60")
    need_memory(memory)
    lengths = [min(memory, many - start) for start in range(0, many, memory)]
    return many + _merged(lengths, memory - 1)[1]


def best_merging(lengths, fan):
    """Return a `Merging`."""
    _need_lengths(lengths, fan)
    return Merging(_merged(lengths, fan)[0])


def least_moved(lengths, fan):
    """Return the number of rows that a best order of merges moves."""
    _need_lengths(lengths, fan)
    return _merged(lengths, fan)[1]


def need_memory(memory):
    """Raise an error unless an argument is a size of the memory."""
    if not is_between(memory, LEAST_MEMORY, MOST_MEMORY):
        raise BadMemory("not an integer from 3 to 8")


def _need_rows(rows, fewest, most, least, greatest):
    if not is_sequence(rows) or not fewest <= len(rows) <= most or not are_between(rows, least, greatest):
        raise BadRows("not a list or tuple of so many integers within the bounds")


def _need_lengths(lengths, fan):
    _need_rows(lengths, 1, MOST_RUNS, 1, MOST_ROWS)
    if not is_between(fan, LEAST_MEMORY - 1, MOST_MEMORY - 1):
        raise BadMemory("not an integer from 2 to 7")


def _merged(lengths, fan):
    """Return the pair of a best order of merges, None without runs, and the number of rows that it moves.

    The shortest runs are merged first, always as many as allowed; only the first merge takes fewer, so that the
    last one can take as many as the others.
    """
    # Each run is a triple of its length, a number of its own, so that trees are never compared, and its tree.
    runs = sorted([(length, index, index) for index, length in enumerate(lengths)])
    moved, made = 0, len(runs)
    many = 1 + (len(runs) - 1) % (fan - 1)
    many = fan if many == 1 else many
    while len(runs) > 1:
        total = sum([run[0] for run in runs[:many]])
        merged = (total, made, tuple([run[2] for run in runs[:many]]))
        runs = sorted(runs[many:] + [merged])
        moved, made, many = moved + total, made + 1, fan
    return (runs[0][2] if runs else None), moved


def _is_tree(tree, fan, most):
    """Return whether a value is an order of merges with at most so many merges in one another."""
    if not isinstance(tree, tuple):
        return is_integer(tree)
    return most > 1 and 2 <= len(tree) <= fan and all([_is_tree(part, fan, most - 1) for part in tree])


def _runs_of(tree):
    """Return the list of the indices of the runs of an order of merges."""
    if not isinstance(tree, tuple):
        return [tree]
    return [run for part in tree for run in _runs_of(part)]


def _moved_by(tree, lengths):
    """Return the number of rows that an order of merges moves."""
    if not isinstance(tree, tuple):
        return 0
    return sum([lengths[run] for run in _runs_of(tree)]) + sum([_moved_by(part, lengths) for part in tree])
