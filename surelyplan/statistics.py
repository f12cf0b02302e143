"""Statistics: notes about data, and the tables that agree with them."""

from surelyplan.errors import BadNotes, BadSchema, Disagrees, TooLarge
from surelyplan.networks import all_networks, excess_of, list_counts, narrow_nodes, network_of, node_list
from surelyplan.notes import agrees_with, all_quantities, bounds_cross, is_note, is_quantity
from surelyplan.plain import are_between, is_group, is_integer, is_sequence
from surelyplan.queries import need_same_schema
from surelyplan.schemas import MOST_COUNT, need_data, need_schema, need_table

MOST_VALUES = 3
MOST_NOTES = 16
MOST_LISTED = 3000


class Statistics:
    """Notes about the data of a schema with two or three values."""

    def __init__(self, schema, notes):
        need_schema(schema)
        if schema.size > MOST_VALUES:
            raise BadSchema("more than three values")
        if not is_sequence(notes) or len(notes) > MOST_NOTES:
            raise BadNotes(None)
        for index, note in enumerate(notes):
            if not is_note(schema, note):
                raise BadNotes(index)
        self.schema = schema
        self.notes = tuple(notes)

    def __eq__(self, other):
        return isinstance(other, Statistics) and self.schema == other.schema and self.notes == other.notes

    def __len__(self):
        return len(self.notes)


class Agrees:
    """The counts of a table that agrees with the notes."""

    def __init__(self, counts):
        self.counts = tuple(counts)

    def __eq__(self, other):
        return isinstance(other, Agrees) and self.counts == other.counts

    def shows(self, stats, table):
        """Return whether the counts are those of an agreeing table."""
        need_statistics(stats)
        need_table(stats.schema, table)
        return table_agrees(stats, table, self.counts)


class Crossed:
    """A quantity whose bounds cross, so that no table agrees."""

    def __init__(self, quantity):
        self.quantity = quantity

    def __eq__(self, other):
        return isinstance(other, Crossed) and self.quantity == other.quantity

    def shows(self, stats, table):
        """Return whether the quantity is one of the table whose bounds cross."""
        need_statistics(stats)
        need_table(stats.schema, table)
        return is_quantity(stats.schema, table, self.quantity) and bounds_cross(stats, table, self.quantity)


class Against:
    """Nodes to which more leads at least than leads from them at most, so that no table agrees."""

    def __init__(self, nodes):
        self.nodes = tuple(nodes)

    def __eq__(self, other):
        return isinstance(other, Against) and self.nodes == other.nodes

    def shows(self, stats, table):
        """Return whether the nodes are some of the table to which more leads than can lead from them."""
        need_statistics(stats)
        need_table(stats.schema, table)
        if not all([is_node(stats.schema, table, node) for node in self.nodes]):
            return False
        return excess_of(stats, table, self.nodes) > 0


def need_statistics(stats):
    """Raise an error unless an argument is statistics."""
    if not isinstance(stats, Statistics):
        raise BadNotes(None)


def need_agreeing(stats):
    """Raise an error if no data agree with statistics; return the list of the networks of all tables."""
    networks = all_networks(stats)
    for table, network in enumerate(networks):
        if not network.is_open():
            raise Disagrees(table)
    return networks


def is_node(schema, table, node):
    """Return whether a value is a node of a table."""
    return is_group(node, 2) and is_integer(node[1]) and node in node_list(schema, table)


def table_agrees(stats, table, counts):
    """Return whether a list or tuple has the counts of a table that agrees with the notes."""
    if len(counts) != len(stats.schema.cells(table)) or not are_between(counts, 0, MOST_COUNT):
        return False
    return all([agrees_with(stats.schema, note, counts) for note in stats.notes if note[1] == table])


def judge_table(stats, table):
    """Return an `Agrees`, or the reason why no table agrees with the notes."""
    need_statistics(stats)
    need_table(stats.schema, table)
    for quantity in all_quantities(stats.schema, table):
        if bounds_cross(stats, table, quantity):
            return Crossed(quantity)
    network = network_of(stats, table)
    nodes = narrow_nodes(network)
    if nodes is not None:
        return Against(nodes)
    return Agrees(list_counts(network, 0)[0])


def has_tables(stats):
    """Return whether some data agree with statistics."""
    need_statistics(stats)
    return all([network.is_open() for network in all_networks(stats)])


def broken_notes(stats, data):
    """Return the ascending list of the indices of the notes with which data do not agree."""
    need_statistics(stats)
    need_data(data)
    need_same_schema(stats, data)
    return [
        index for index, note in enumerate(stats.notes)
        if not agrees_with(stats.schema, note, data.tables[note[1]])
    ]


def agree(stats, data):
    """Return whether data agree with all notes."""
    return broken_notes(stats, data) == []


def all_tables(stats, table):
    """Return the ascending list of the counts of all tables that agree with the notes."""
    need_statistics(stats)
    need_table(stats.schema, table)
    found = list_counts(network_of(stats, table), MOST_LISTED)
    if len(found) > MOST_LISTED:
        raise TooLarge("more than 3000 tables agree")
    return found


def count_tables(stats, table):
    """Return the number of the tables that agree with the notes."""
    return len(all_tables(stats, table))
