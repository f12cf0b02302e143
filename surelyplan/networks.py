"""The network of a table: counts that agree with notes are flows through it within bounds.

The slack of a set of nodes is what its leaving edges carry at most, less what its entering
edges carry at least. As much flows into each set as out of it, so a slack below 0 shows that
there is no flow within the bounds; if no bounds cross and no slack is below 0, there is one
(Hoffman's theorem). A network has at most eight nodes, so the slacks of all sets are at hand,
and tables can be built cell by cell without ever coming to a dead end.
"""

from surelyplan.notes import ROWS, bounds_of, cells_about, note_parts
from surelyplan.schemas import MOST_COUNT

TOP = ("top", 0)
END = ("end", 0)


def node_list(schema, table):
    """Return the list of the nodes of a table."""
    if schema.widths[table] == 1:
        return [TOP, END]
    firsts = [("first", value) for value in range(schema.size)]
    seconds = [("second", value) for value in range(schema.size)]
    return [TOP] + firsts + seconds + [END]


def edge_list(schema, table):
    """Return the edges as triples of a quantity and two nodes, those of the cells first, in their order."""
    cells = schema.cells(table)
    back = (ROWS, END, TOP)
    if schema.widths[table] == 1:
        return [(("cell", cell), TOP, END) for cell in cells] + [back]
    inner = [(("cell", cell), ("first", cell[0]), ("second", cell[1])) for cell in cells]
    firsts = [(("value", 0, value), TOP, ("first", value)) for value in range(schema.size)]
    seconds = [(("value", 1, value), ("second", value), END) for value in range(schema.size)]
    return inner + firsts + seconds + [back]


class Shape:
    """The edges of tables with a number of columns, and the sets of nodes that they lead from and to.

    Nodes are numbered; a set of nodes is the integer whose bits with the numbers of its nodes are set. `edge_at` leads
    from the cells about which an edge is, by their indices, to its number.
    """

    def __init__(self, schema, table):
        edges = edge_list(schema, table)
        self.nodes = node_list(schema, table)
        self.width = len(schema.cells(table))
        self.ends = [(self.nodes.index(start), self.nodes.index(end)) for quantity, start, end in edges]
        self.leaving = [_sets_with(len(self.nodes), start, end) for start, end in self.ends]
        self.entering = [_sets_with(len(self.nodes), end, start) for start, end in self.ends]
        about = [tuple(cells_about(schema, table, quantity)) for quantity, start, end in edges]
        self.edge_at = {cells: at for at, cells in enumerate(about)}


class Network:
    """The edges of a table with the bounds that notes set; `is_free` tells that there are no notes about it."""

    def __init__(self, stats, table, shape):
        self.shape = shape
        self.lows = [0] * len(shape.ends)
        self.highs = [0] * len(shape.ends)
        for cells, at in shape.edge_at.items():
            self.highs[at] = MOST_COUNT * len(cells)
        notes = [note_parts(note) for note in stats.notes if note[1] == table]
        self.is_free = notes == []
        self.found_slacks = []
        for _, quantity, low, high in notes:
            at = shape.edge_at[tuple(cells_about(stats.schema, table, quantity))]
            self.lows[at] = max(self.lows[at], low)
            self.highs[at] = min(self.highs[at], high)

    def slacks(self):
        """Return the list of the slacks of all sets of nodes."""
        if self.found_slacks == []:
            slacks = [0] * (1 << len(self.shape.nodes))
            for at, (low, high) in enumerate(zip(self.lows, self.highs)):
                _add(slacks, self.shape.leaving[at], high)
                _add(slacks, self.shape.entering[at], -low)
            self.found_slacks = slacks
        return self.found_slacks

    def is_open(self):
        """Return whether there is a flow within the bounds."""
        if self.is_free:
            return True
        return all([low <= high for low, high in zip(self.lows, self.highs)]) and min(self.slacks()) >= 0

    def flow_ends(self, slacks, at):
        """Return the pair of the least and the greatest flow of an edge, if there is a flow at all."""
        low, high = self.lows[at], self.highs[at]
        least = high - min([slacks[group] for group in self.shape.leaving[at]])
        greatest = low + min([slacks[group] for group in self.shape.entering[at]])
        return max(low, least), min(high, greatest)

    def slacks_with(self, slacks, at, flow):
        """Return the slacks if both bounds of an edge become a flow that is possible for it."""
        slacks = list(slacks)
        _add(slacks, self.shape.leaving[at], flow - self.highs[at])
        _add(slacks, self.shape.entering[at], self.lows[at] - flow)
        return slacks


def network_of(stats, table):
    """Return the network of a table."""
    return Network(stats, table, Shape(stats.schema, table))


def all_networks(stats):
    """Return the list of the networks of all tables; those with the same number of columns share their shape."""
    widths = stats.schema.widths
    shapes = {width: Shape(stats.schema, widths.index(width)) for width in sorted(set(widths))}
    return [Network(stats, table, shapes[width]) for table, width in enumerate(widths)]


def list_counts(network, most):
    """Return the ascending list of the counts of agreeing tables, or the first ones, at least one more than `most`."""
    found = []
    if network.is_open():
        _collect(network, network.slacks(), (), most, found)
    return found


def quantity_ends(network, schema, table, quantity):
    """Return the pair of the smallest and the greatest value of a quantity of an agreeing table, if there is one."""
    # The flow of one edge is the quantity: the edge that is about the same cells.
    at = network.shape.edge_at[tuple(cells_about(schema, table, quantity))]
    return network.flow_ends(network.slacks(), at)


def first_counts(network):
    """Return the smallest counts of an agreeing table, if there is one."""
    return (0,) * network.shape.width if network.is_free else list_counts(network, 0)[0]


def narrow_nodes(network):
    """Return the list of nodes with a slack below 0, or None if there are none."""
    for group, slack in enumerate(network.slacks()):
        if slack < 0:
            return [node for place, node in enumerate(network.shape.nodes) if group >> place & 1]
    return None


def excess_of(stats, table, nodes):
    """Return by how much more leads to some nodes at least than leads from them at most."""
    excess = 0
    for quantity, start, end in edge_list(stats.schema, table):
        low, high = bounds_of(stats, table, quantity)
        if end in nodes and start not in nodes:
            excess += low
        if start in nodes and end not in nodes:
            excess -= high
    return excess


def _sets_with(many, inside, outside):
    """Return the list of all sets of so many nodes that have one node and have another one not."""
    groups = [1 << inside]
    for node in range(many):
        if node not in (inside, outside):
            groups = groups + [group + (1 << node) for group in groups]
    return groups


def _add(slacks, groups, more):
    if more != 0:
        for group in groups:
            slacks[group] += more


def _collect(network, slacks, counts, most, found):
    at = len(counts)
    least, greatest = network.flow_ends(slacks, at)
    if at == network.shape.width - 1:
        # Whatever is possible for the last cell makes a whole table.
        found.extend([counts + (count,) for count in range(least, greatest + 1)])
        return
    for count in range(least, greatest + 1):
        if len(found) <= most:
            _collect(network, network.slacks_with(slacks, at, count), counts + (count,), most, found)
