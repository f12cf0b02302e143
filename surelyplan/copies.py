"""Copies of tables at several machines: whether a query can run, and loads that are as even as possible."""

from surelyplan.errors import BadMachines, NotPossible
from surelyplan.networks import quantity_ends
from surelyplan.notes import ROWS
from surelyplan.plain import are_between, index_groups, is_ascending, is_between, is_group, is_integer, is_sequence
from surelyplan.queries import check_query_and_data, need_query, used_tables
from surelyplan.sizes import check_notes_and_query

MOST_MACHINES = 4


class Loads:
    """The rows of each table that machines read, and machines that cannot read less than the greatest load."""

    def __init__(self, parts, machines):
        self.parts = [{machine: part[machine] for machine in part} for part in parts]
        self.machines = tuple(machines)

    def __eq__(self, other):
        return isinstance(other, Loads) and self.parts == other.parts and self.machines == other.machines

    def shows(self, query, data, many, homes, down):
        """Return whether each row is read once, with the smallest greatest load, and the machines show this."""
        greatest = greatest_load(query, data, many, homes, down)
        live = _live_copies(homes, down)
        rows = _rows_to_read(query, data)
        if not _are_parts(self.parts, rows, live):
            return False
        if max([sum([part.get(machine, 0) for part in self.parts]) for machine in range(many)]) != greatest:
            return False
        if not are_between(self.machines, 0, many - 1) or not is_ascending(self.machines) or len(self.machines) == 0:
            return False
        return _share(rows, live, self.machines) == greatest


def can_run(query, many, homes, down):
    """Return whether each table of a query has a copy at a machine that is not down."""
    need_query(query)
    _need_machines(query, many, homes, down)
    return _can_run(query, homes, down)


def stopping_sets(query, many, homes):
    """Return the ascending list of all smallest sets of machines without which a query cannot run."""
    need_query(query)
    _need_machines(query, many, homes, ())
    places = [homes[table] for table in used_tables(query)]
    fewest = min([len(machines) for machines in places])
    return sorted({machines for machines in places if len(machines) == fewest})


def read_evenly(query, data, many, homes, down):
    """Return a `Loads`."""
    _check(query, data, many, homes, down)
    rows, live = _rows_to_read(query, data), _live_copies(homes, down)
    greatest = _greatest_share(rows, live, many)
    shares = [(_share(rows, live, group), group) for group in index_groups(many)[1:]]
    tight = [group for share, group in shares if share == greatest]
    return Loads(_divide(rows, live, greatest, many), tight[0])


def greatest_load(query, data, many, homes, down):
    """Return the smallest possible greatest load."""
    _check(query, data, many, homes, down)
    return _greatest_share(_rows_to_read(query, data), _live_copies(homes, down), many)


def surely_greatest_load(stats, query, many, homes, down):
    """Return the greatest one of the greatest loads over all agreeing data."""
    networks = check_notes_and_query(stats, query)
    _need_machines(query, many, homes, down)
    _need_run(query, homes, down)
    # More rows never make a load smaller, and the tables agree with their notes each on its own.
    used = used_tables(query)
    rows = [
        quantity_ends(network, query.schema, table, ROWS)[1] if table in used else 0
        for table, network in enumerate(networks)
    ]
    return _greatest_share(rows, _live_copies(homes, down), many)


def loads_with_copy(query, data, many, homes):
    """Return a dict from all pairs of a table and a machine without a copy of it to the greatest load with one."""
    check_query_and_data(query, data)
    _need_machines(query, many, homes, ())
    rows = _rows_to_read(query, data)
    loads = {}
    for table, machines in enumerate(homes):
        for machine in range(many):
            if machine not in machines:
                more = homes[:table] + (machines + (machine,),) + homes[table + 1:]
                loads[(table, machine)] = _greatest_share(rows, more, many)
    return loads


def _check(query, data, many, homes, down):
    check_query_and_data(query, data)
    _need_machines(query, many, homes, down)
    _need_run(query, homes, down)


def _need_machines(query, many, homes, down):
    if not is_between(many, 1, MOST_MACHINES):
        raise BadMachines("not an integer from 1 to 4")
    if not is_group(homes, len(query.schema)) or not all([_are_machines(many, some) for some in homes]):
        raise BadMachines("not a tuple with an ascending tuple of machines for each table")
    if () in homes or not _are_machines(many, down):
        raise BadMachines("no copy of a table, or not an ascending tuple of machines that are down")


def _are_machines(many, machines):
    return isinstance(machines, tuple) and are_between(machines, 0, many - 1) and is_ascending(machines)


def _can_run(query, homes, down):
    live = _live_copies(homes, down)
    return all([live[table] != () for table in used_tables(query)])


def _need_run(query, homes, down):
    if not _can_run(query, homes, down):
        raise NotPossible("the query cannot run")


def _live_copies(homes, down):
    """Return a list with the tuple of the machines for each table that have a copy and are not down."""
    return [tuple([machine for machine in machines if machine not in down]) for machines in homes]


def _rows_to_read(query, data):
    """Return the list of the numbers of rows of all tables, 0 for those that the query does not use."""
    used = used_tables(query)
    return [data.rows(table) if table in used else 0 for table in range(len(data))]


def _rows_within(rows, live, group):
    """Return the number of rows of tables whose copies are all at some machines."""
    return sum([many for many, machines in zip(rows, live) if all([machine in group for machine in machines])])


def _share(rows, live, group):
    """Return the number of rows that one of some machines must read at least, since no other machine can."""
    return (_rows_within(rows, live, group) + len(group) - 1) // len(group)


def _greatest_share(rows, live, many):
    return max([_share(rows, live, group) for group in index_groups(many)[1:]])


def _divide(rows, live, load, many):
    """Return a list with a dict for each table, from machines to the rows that they read, none more than a load."""
    rest, places, free = list(rows), list(live), [load] * many
    parts = []
    for table, machines in enumerate(live):
        part = {}
        for place, machine in enumerate(machines):
            # What this machine does not read now, only the machines behind it can still read.
            places[table] = machines[place + 1:]
            taken = _least_taken(rest, places, free, machine)
            rest[table] -= taken
            free[machine] -= taken
            if taken > 0:
                part[machine] = taken
        parts.append(part)
    return parts


def _least_taken(rest, places, free, machine):
    """Return the number of rows that a machine must read, since machines without it have no room for them."""
    groups = [group for group in index_groups(len(free)) if machine not in group]
    return max([_rows_within(rest, places, group) - sum([free[other] for other in group]) for group in groups] + [0])


def _are_parts(parts, rows, live):
    """Return whether a list has a dict for each table by which all its rows are read, at machines with a copy."""
    if not is_sequence(parts) or len(parts) != len(rows):
        return False
    for part, many, machines in zip(parts, rows, live):
        if not all([is_integer(machine) and machine in machines for machine in part]):
            return False
        if not all([is_integer(count) and count >= 0 for count in part.values()]) or sum(part.values()) != many:
            return False
    return True
