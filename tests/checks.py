"""Checks that many tests share."""

from itertools import combinations
from unittest import TestCase

from surelyplan import errors
from surelyplan.queries import Query
from surelyplan.schemas import Data, Schema
from surelyplan.statistics import Statistics

SCHEMA = Schema(2, (2, 1))
DATA = Data(SCHEMA, ((1, 1, 0, 1), (1, 2)))
QUERY = Query(SCHEMA, ((0, (0, 1)), (1, (1,))), (), (0,))
STATS = Statistics(SCHEMA, [("rows", 0, 3, 3), ("value", 0, 0, 0, 2, 2), ("value", 0, 1, 0, 1, 1)])

# What is an argument of no kind at all; floats are not promised to raise anything.
ODD = (
    None, True, False, -1, 99, 10 ** 40, "", "rows", b"r", (), [], {}, (None,), [None], ((),), [[]], {0: 1},
    (True,), [False], ("rows",), ("cell", [0]), {1, 2}, frozenset(), range(2), object(), len, Schema, ValueError("no"),
)
OBJECTS = (SCHEMA, DATA, QUERY, STATS)


class Fault:
    """Arguments that replace others, by their places, and the error that is required."""

    def __init__(self, error, places, **attributes):
        self.error = error
        self.places = places
        self.attributes = attributes


class Case(TestCase):
    """A test case with checks for errors, equality and results."""

    def assert_fault(self, call, arguments, error, attributes=None):
        with self.assertRaises(errors.PlanError) as caught:
            call(*arguments)
        self.assertEqual(error, caught.exception.__class__, arguments)
        for name, worth in (attributes or {}).items():
            self.assertEqual((name, worth), (name, getattr(caught.exception, name)), arguments)

    def assert_error_order(self, call, good, faults):
        """Each fault alone raises its error; of two faults, the first one counts."""
        call(*good)
        for fault in faults:
            self.assert_fault(call, put_in(good, fault.places), fault.error, fault.attributes)
        for first, second in combinations(faults, 2):
            if not set(first.places) & set(second.places):
                places = {**first.places, **second.places}
                self.assert_fault(call, put_in(good, places), first.error, first.attributes)

    def assert_refused(self, call, good, place, values, error, **attributes):
        """Each of the values raises the error at this place."""
        for value in values:
            self.assert_fault(call, put_in(good, {place: value}), error, attributes)

    def assert_equality(self, alike, different):
        """Two objects that must be equal, and others that must be different from them and from anything."""
        one, same = alike
        self.assertIs(one == same, True)
        self.assertIs(one != same, False)
        for other in different:
            self.assertIs(one == other, False, other)
            self.assertIs(one != other, True, other)
        for other in ODD + OBJECTS + (AlwaysEqual(),):
            if not isinstance(other, one.__class__):
                self.assertIs(one == other, False, other)
                self.assertIs(one != other, True, other)

    def assert_new_each_time(self, call, spoil):
        """What a call returns is new: spoiling it does not change what the next call returns."""
        first = call()
        spoil(first)
        second = call()
        self.assertNotEqual(first, second)
        self.assertEqual(second, call())


class AlwaysEqual:
    """Equal to all things, if it is asked."""

    def __eq__(self, other):
        return True

    def __ne__(self, other):
        return False


def put_in(arguments, places):
    """The arguments with others at some places."""
    return tuple(places.get(place, argument) for place, argument in enumerate(arguments))


def odd_except(*kinds):
    """Odd arguments and objects of the package, except those of some kinds."""
    return [value for value in ODD + OBJECTS if not isinstance(value, kinds)]
