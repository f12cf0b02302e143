"""Several machines: rows that are moved between them while a query is run, and as few of them as possible."""

from surelyplan.errors import BadMachines, BadShipping
from surelyplan.joining import atom_rows, join_rows, joined_rows
from surelyplan.plain import is_between, is_group, is_integer
from surelyplan.queries import check_query_and_data, need_order, part_of
from surelyplan.sizes import check_notes_and_query, size_ends

MOST_MACHINES = 3
GATHER = ("gather",)
COPY = ("copy",)


class Shipped:
    """Ways that move as few rows as possible, and the least sums by which rows can be at their spots."""

    def __init__(self, ways, sums):
        self.ways = tuple(ways)
        self.sums = {place: sums[place] for place in sums}

    def __eq__(self, other):
        return isinstance(other, Shipped) and self.ways == other.ways and self.sums == other.sums

    def shows(self, query, data, machines, places, order):
        """Return whether the ways move as few rows as possible, and the sums are right, on data."""
        _check_on_data(query, data, machines, places, order)
        trip = Trip(query, machines, places, order)
        return _is_best(trip, _loads_on(query, data, machines, order), tuple(self.ways), self.sums)

    def shows_surely(self, stats, query, machines, places, order):
        """Return whether the ways have the smallest bounds, and the sums are right, for statistics."""
        _check_for_stats(stats, query, machines, places, order)
        trip = Trip(query, machines, places, order)
        return _is_best(trip, _loads_for(stats, query, machines, order), tuple(self.ways), self.sums)


class Scattered:
    """Rows of data, by the machines to which the values of their variables belong."""

    def __init__(self, rows, machines):
        sums = {}
        for values, count in rows.counts.items():
            homes = tuple([value % machines for value in values])
            sums[homes] = sums.get(homes, 0) + count
        self.many = rows.many
        self.bound = rows.bound
        self.homes = sums

    def moves(self, start, target):
        """Return the number of rows that change their machine from one spot to another one."""
        return sum([
            count for values, count in self.homes.items()
            if _machine_at(self.bound, values, start) != _machine_at(self.bound, values, target)
        ])


class Limited:
    """Rows of which nothing is known but that there are at most so many."""

    def __init__(self, many, machines):
        self.many = many
        self.machines = machines

    def moves(self, start, target):
        """Return the greatest number of rows that may change their machine from one spot to another one."""
        return 0 if self.machines == 1 or start == target else self.many


class Trip:
    """An order of a query on several machines: the first spots of its atoms, and the ways that its steps can have."""

    def __init__(self, query, machines, places, order):
        self.machines = machines
        self.spots = [_first_spot(query, places, index) for index in order]
        self.choices = [_possible_ways(query, order, step) for step in range(1, len(order))]

    def allows(self, ways):
        """Return whether a value is a tuple with a possible way for each step."""
        if not is_group(ways, len(self.choices)):
            return False
        return all([_is_plain(way) and way in choice for way, choice in zip(ways, self.choices)])

    def moves_in_step(self, loads, step, spot, way):
        """Return how many rows a step moves by a way, if the rows made so far are at a spot."""
        made, added = loads[step]
        if way == COPY:
            return added.many * (self.machines - 1)
        target = _spot_after(spot, way)
        return made.moves(spot, target) + added.moves(self.spots[step + 1], target)


def ship(query, data, machines, places, order):
    """Return a `Shipped` by the moved rows on data."""
    _check_on_data(query, data, machines, places, order)
    return _best(Trip(query, machines, places, order), _loads_on(query, data, machines, order))


def moved(query, data, machines, places, order, ways):
    """Return the list of the numbers of moved rows of all steps."""
    _check_on_data(query, data, machines, places, order)
    trip = _trip_with(query, machines, places, order, ways)
    return _moves_of(trip, _loads_on(query, data, machines, order), ways)


def run_apart(query, data, machines, places, order, ways):
    """Return a list with a dict for each machine: what the rows that are there in the end show, with their counts."""
    _check_on_data(query, data, machines, places, order)
    trip = _trip_with(query, machines, places, order, ways)
    spot = trip.spots[0]
    for way in ways:
        spot = _spot_after(spot, way)
    rows = joined_rows(query, data, order)
    shown = [rows.bound.index(variable) for variable in query.shown]
    sums = [{} for _ in range(machines)]
    for values, count in rows.counts.items():
        here = sums[_machine_at(rows.bound, values, spot) % machines]
        told = tuple([values[place] for place in shown])
        here[told] = here.get(told, 0) + count
    return [{key: part[key] for key in sorted(part)} for part in sums]


def ship_surely(stats, query, machines, places, order):
    """Return a `Shipped` by the bounds for statistics."""
    _check_for_stats(stats, query, machines, places, order)
    return _best(Trip(query, machines, places, order), _loads_for(stats, query, machines, order))


def most_moved(stats, query, machines, places, order, ways):
    """Return the list of the bounds of all steps."""
    _check_for_stats(stats, query, machines, places, order)
    trip = _trip_with(query, machines, places, order, ways)
    return _moves_of(trip, _loads_for(stats, query, machines, order), ways)


def _check_on_data(query, data, machines, places, order):
    check_query_and_data(query, data)
    _check_machines(query, machines, places)
    need_order(query, order)


def _check_for_stats(stats, query, machines, places, order):
    check_notes_and_query(stats, query)
    _check_machines(query, machines, places)
    need_order(query, order)


def _check_machines(query, machines, places):
    if not is_between(machines, 1, MOST_MACHINES):
        raise BadMachines("not a number of machines from 1 to 3")
    widths = query.schema.widths
    if not is_group(places, len(widths)):
        raise BadMachines("not a tuple with a place for each table")
    if not all([place is None or is_between(place, 0, width - 1) for place, width in zip(places, widths)]):
        raise BadMachines("a place is neither None nor a column of the table")


def _trip_with(query, machines, places, order, ways):
    """Return the trip of an order, if it allows some ways."""
    trip = Trip(query, machines, places, order)
    if not trip.allows(ways):
        raise BadShipping("not a tuple with a possible way for each step")
    return trip


def _first_spot(query, places, index):
    """Return the spot at which the rows of an atom are at first: None, or a variable."""
    table, variables = query.atoms[index]
    return None if places[table] is None else variables[places[table]]


def _possible_ways(query, order, step):
    known = [variable for index in order[:step] for variable in query.atoms[index][1]]
    shared = sorted({variable for variable in query.atoms[order[step]][1] if variable in known})
    return [GATHER, COPY] + [("split", variable) for variable in shared]


def _is_plain(way):
    """Return whether a value is a tuple of strings and integers; True, which equals 1, is none."""
    return isinstance(way, tuple) and all([isinstance(item, str) or is_integer(item) for item in way])


def _spot_after(spot, way):
    """Return the spot of the rows that a way makes from rows at a spot."""
    if way == COPY:
        return spot
    return None if way == GATHER else way[1]


def _machine_at(bound, values, spot):
    """Return the machine of a row at a spot, or a number with the same remainder."""
    return 0 if spot is None else values[bound.index(spot)]


def _loads_on(query, data, machines, order):
    """Return, for each step, the pair of the rows made so far and the rows of the next atom, on data."""
    loads = []
    made = atom_rows(query, data, order[0])
    for index in order[1:]:
        added = atom_rows(query, data, index)
        loads.append((Scattered(made, machines), Scattered(added, machines)))
        if len(loads) < len(order) - 1:
            made = join_rows(made, added)
    return loads


def _loads_for(stats, query, machines, order):
    """Return, for each step, the pair of the rows made so far and the rows of the next atom, for statistics."""
    loads = []
    for step in range(1, len(order)):
        made = size_ends(stats, part_of(query, order[:step]))[1]
        added = size_ends(stats, part_of(query, order[step:step + 1]))[1]
        loads.append((Limited(made, machines), Limited(added, machines)))
    return loads


def _moves_of(trip, loads, ways):
    numbers = []
    spot = trip.spots[0]
    for step, way in enumerate(ways):
        numbers.append(trip.moves_in_step(loads, step, spot, way))
        spot = _spot_after(spot, way)
    return numbers


def _best(trip, loads):
    """Return the `Shipped` of a trip: for each number of atoms, from the sums by which rows are at their spots."""
    sums = {(1, trip.spots[0]): 0}
    ways = {(1, trip.spots[0]): ()}
    for step, choice in enumerate(trip.choices):
        reached = [place for place in sums if place[0] == step + 1]
        for before in reached:
            for way in choice:
                after = (step + 2, _spot_after(before[1], way))
                total = sums[before] + trip.moves_in_step(loads, step, before[1], way)
                if after not in sums or total < sums[after]:
                    sums[after] = total
                    ways[after] = ways[before] + (way,)
    last = [place for place in sums if place[0] == len(trip.spots)]
    totals = [sums[place] for place in last]
    return Shipped(ways[last[totals.index(min(totals))]], sums)


def _is_best(trip, loads, ways, sums):
    """Return whether ways have the smallest sum, and sums are those of all numbers of atoms and their spots."""
    best = _best(trip, loads)
    if not trip.allows(ways) or not all([_is_place(place) and is_integer(sums[place]) for place in sums]):
        return False
    return sums == best.sums and sum(_moves_of(trip, loads, ways)) == sum(_moves_of(trip, loads, best.ways))


def _is_place(place):
    return is_integer(place[0]) and (place[1] is None or is_integer(place[1]))
