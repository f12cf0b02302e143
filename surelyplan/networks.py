"""The network of a table: counts that agree with notes are flows through it within bounds.

The slack of a set of nodes is what its leaving edges carry at most, less what its entering
edges carry at least. As much flows into each set as out of it, so a slack below 0 shows that
there is no flow within the bounds; if no bounds cross and no slack is below 0, there is one
(Hoffman's theorem). A network has at most eight nodes, so the slacks of all sets are at hand,
and tables can be built cell by cell without ever coming to a dead end.
"""

from surelyplan.notes import ROWS, bounds_of

TOP = ("top", 0)
END = ("end", 0)


def node_list(schema, table):
    """Return the list of the nodes of a table."""
    if schema.widths[table] == 1:
        return [TOP, END]
    firsts = [("first", value) for value in range(schema.size)]
    seconds = [("second", value) for value in range(schema.size)]
    return [TOP] + firsts + seconds + [END]


def edge_list(schema, table):
    """Return the edges as triples of a quantity and two nodes, those of the cells first, in their order."""
    cells = schema.cells(table)
    back = (ROWS, END, TOP)
    if schema.widths[table] == 1:
        return [(("cell", cell), TOP, END) for cell in cells] + [back]
    inner = [(("cell", cell), ("first", cell[0]), ("second", cell[1])) for cell in cells]
    firsts = [(("value", 0, value), TOP, ("first", value)) for value in range(schema.size)]
    seconds = [(("value", 1, value), ("second", value), END) for value in range(schema.size)]
    return inner + firsts + seconds + [back]


class Network:
    """The edges of a table with the bounds that notes set, and the sets of nodes that they lead from and to.

    Nodes are numbered; a set of nodes is the integer whose bits with the numbers of its nodes are set.
    Edges are quadruples of two nodes and two bounds.
    """

    def __init__(self, stats, table):
        self.nodes = node_list(stats.schema, table)
        self.width = len(stats.schema.cells(table))
        self.edges = []
        for quantity, start, end in edge_list(stats.schema, table):
            low, high = bounds_of(stats, table, quantity)
            self.edges.append((self.nodes.index(start), self.nodes.index(end), low, high))
        self.leaving = [_sets_with(len(self.nodes), edge[0], edge[1]) for edge in self.edges]
        self.entering = [_sets_with(len(self.nodes), edge[1], edge[0]) for edge in self.edges]

    def slacks(self):
        """Return the list of the slacks of all sets of nodes."""
        slacks = [0] * (1 << len(self.nodes))
        for at, edge in enumerate(self.edges):
            for group in self.leaving[at]:
                slacks[group] += edge[3]
            for group in self.entering[at]:
                slacks[group] -= edge[2]
        return slacks

    def is_open(self, slacks):
        """Return whether there is a flow within the bounds."""
        return all([edge[2] <= edge[3] for edge in self.edges]) and min(slacks) >= 0

    def flow_ends(self, slacks, at):
        """Return the pair of the least and the greatest flow of an edge, if there is a flow at all."""
        low, high = self.edges[at][2:]
        least = high - min([slacks[group] for group in self.leaving[at]])
        greatest = low + min([slacks[group] for group in self.entering[at]])
        return max(low, least), min(high, greatest)

    def slacks_with(self, slacks, at, flow):
        """Return the slacks if both bounds of an edge become a flow that is possible for it."""
        low, high = self.edges[at][2:]
        slacks = list(slacks)
        for group in self.leaving[at]:
            slacks[group] -= high - flow
        for group in self.entering[at]:
            slacks[group] -= flow - low
        return slacks


def list_counts(network, most):
    """Return the ascending list of the counts of agreeing tables, or the first ones, at least one more than `most`."""
    slacks = network.slacks()
    found = []
    if network.is_open(slacks):
        _collect(network, slacks, (), most, found)
    return found


def narrow_nodes(network):
    """Return the list of nodes with a slack below 0, or None if there are none."""
    slacks = network.slacks()
    for group, slack in enumerate(slacks):
        if slack < 0:
            return [node for place, node in enumerate(network.nodes) if group >> place & 1]
    return None


def excess_of(stats, table, nodes):
    """Return by how much more leads to some nodes at least than leads from them at most."""
    excess = 0
    for quantity, start, end in edge_list(stats.schema, table):
        low, high = bounds_of(stats, table, quantity)
        if end in nodes and start not in nodes:
            excess += low
        if start in nodes and end not in nodes:
            excess -= high
    return excess


def _sets_with(many, inside, outside):
    return [group for group in range(1 << many) if group >> inside & 1 and not group >> outside & 1]


def _collect(network, slacks, counts, most, found):
    at = len(counts)
    if at == network.width:
        found.append(counts)
        return
    least, greatest = network.flow_ends(slacks, at)
    for count in range(least, greatest + 1):
        if len(found) <= most:
            _collect(network, network.slacks_with(slacks, at, count), counts + (count,), most, found)
