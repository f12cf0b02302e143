"""Queries that have the same counts on all data: those that are the same but for the names of variables."""

from itertools import permutations

from surelyplan.plain import all_tuples, are_between
from surelyplan.within import answer_on, data_of_atoms, image_of, leads_to, need_alike


class Renamed:
    """A variable of the second query for each variable of the first one, which becomes the second one by it."""

    def __init__(self, mapping):
        self.mapping = tuple(mapping)

    def __eq__(self, other):
        return isinstance(other, Renamed) and self.mapping == other.mapping

    def shows(self, one, other):
        """Return whether the first query becomes the second one by the mapping."""
        need_alike(one, other)
        many = other.variables()
        if len(self.mapping) != many or len(set(self.mapping)) < many or not are_between(self.mapping, 0, many - 1):
            return False
        return _renames(one, other, self.mapping)


class Apart:
    """Data on which the answers of two queries are different."""

    def __init__(self, data):
        self.data = data

    def __eq__(self, other):
        return isinstance(other, Apart) and self.data == other.data

    def shows(self, one, other):
        """Return whether the answers are different on the data."""
        need_alike(one, other)
        return self.data.schema.widths == one.schema.widths and _differ_on(one, other, self.data)


def judge_renamed(one, other):
    """Return a `Renamed` or an `Apart`."""
    need_alike(one, other)
    for mapping in permutations(range(one.variables())):
        if _renames(one, other, mapping):
            return Renamed(mapping)
    return Apart(_data_apart(one, other))


def same_counts(one, other):
    """Return whether two queries have the same counts."""
    return isinstance(judge_renamed(one, other), Renamed)


def _renames(one, other, mapping):
    if len(one) != len(other) or one.variables() != other.variables():
        return False
    return leads_to(mapping, one.atoms, other.atoms) and image_of(mapping, one.shown) == other.shown


def _differ_on(one, other, data):
    return answer_on(one, data) != answer_on(other, data)


def _data_apart(one, other):
    """Return data on which the answers of two queries are different that are no renamings of each other.

    With one row or none for each atom of a query, the sums with signs over all such data single out the
    assignments that miss none of these atoms. The query itself has such an assignment, for the tuple of its
    shown variables. If the other query had one, too, for both queries, they would have equally many atoms,
    and by mappings that miss no atom, and so no variable, also equally many variables: they would be renamed.
    """
    for query in (one, other):
        for counts in all_tuples([(1, 0)] * len(query)):
            data = data_of_atoms(query, counts)
            if _differ_on(one, other, data):
                return data
    return None
