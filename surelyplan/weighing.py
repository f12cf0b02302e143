"""Weighted sums of tables, the ends of quantities, and what follows from notes."""

from surelyplan.errors import BadQuantity, BadWeights
from surelyplan.networks import edge_list, list_counts, network_of, node_list, quantity_ends
from surelyplan.notes import bounds_of, is_note, is_quantity, note_parts, value_on
from surelyplan.plain import are_between, is_group, is_integer
from surelyplan.schemas import need_table
from surelyplan.statistics import Statistics, need_agreeing, need_statistics, table_agrees

MOST_WEIGHT = 9


class Weighed:
    """Two tables with the smallest and the greatest weighted sum, and prices that show that none is beyond."""

    def __init__(self, least, greatest, low, high):
        self.least = tuple(least)
        self.greatest = tuple(greatest)
        self.low = {node: low[node] for node in low}
        self.high = {node: high[node] for node in high}

    def __eq__(self, other):
        if not isinstance(other, Weighed) or self.least != other.least or self.greatest != other.greatest:
            return False
        return self.low == other.low and self.high == other.high

    def shows(self, stats, table, weights):
        """Return whether the tables agree with the notes, and the prices show that their sums are the ends."""
        _check_weighing(stats, table, weights)
        if not table_agrees(stats, table, self.least) or not table_agrees(stats, table, self.greatest):
            return False
        if not _are_prices(stats, table, self.low) or not _are_prices(stats, table, self.high):
            return False
        least, greatest = _weighted_sum(self.least, weights), _weighted_sum(self.greatest, weights)
        if _priced_sum(stats, table, weights, self.low) != least:
            return False
        return _priced_sum(stats, table, _opposite(weights), self.high) == -greatest


def weigh(stats, table, weights):
    """Return a `Weighed`: the tables with the smallest and the greatest weighted sum, with prices."""
    _check_weighing(stats, table, weights)
    network = network_of(stats, table)
    flows = _some_flows(stats, table, network)
    least, low = _cheapest(network, flows, list(weights))
    greatest, high = _cheapest(network, flows, _opposite(weights))
    return Weighed(least, greatest, low, high)


def weighed_ends(stats, table, weights):
    """Return the pair of the smallest and the greatest weighted sum."""
    found = weigh(stats, table, weights)
    return _weighted_sum(found.least, weights), _weighted_sum(found.greatest, weights)


def tightest(stats, table, quantity):
    """Return the pair of the smallest and the greatest value of a quantity over all data that agree."""
    need_statistics(stats)
    need_table(stats.schema, table)
    networks = need_agreeing(stats)
    if not is_quantity(stats.schema, table, quantity):
        raise BadQuantity("not a quantity of the table")
    return quantity_ends(networks[table], stats.schema, table, quantity)


def follows(stats, note):
    """Return whether all data that agree with statistics agree with a note."""
    need_statistics(stats)
    need_agreeing(stats)
    if not is_note(stats.schema, note):
        raise BadQuantity("not a note for the schema")
    return _holds(stats, note)


def needed_notes(stats):
    """Return the ascending list of the indices of the notes that are left when those that follow are dropped."""
    need_statistics(stats)
    need_agreeing(stats)
    kept = list(range(len(stats)))
    for index, note in enumerate(stats.notes):
        others = [other for other in kept if other != index]
        if _holds(Statistics(stats.schema, [stats.notes[other] for other in others]), note):
            kept = others
    return kept


def _holds(stats, note):
    table, quantity, low, high = note_parts(note)
    least, greatest = quantity_ends(network_of(stats, table), stats.schema, table, quantity)
    return low <= least and greatest <= high


def _check_weighing(stats, table, weights):
    need_statistics(stats)
    need_table(stats.schema, table)
    need_agreeing(stats)
    if not is_group(weights, len(stats.schema.cells(table))) or not are_between(weights, 0, MOST_WEIGHT):
        raise BadWeights("not a tuple with an integer from 0 to 9 for each cell")


def _weighted_sum(counts, weights):
    return sum([count * weight for count, weight in zip(counts, weights)])


def _opposite(weights):
    return [-weight for weight in weights]


def _are_prices(stats, table, prices):
    if not all([is_integer(price) for price in prices.values()]):
        return False
    nodes = node_list(stats.schema, table)
    if len(prices) != len(nodes) or not all([is_integer(node[1]) for node in prices]):
        return False
    return all([node in prices for node in nodes])


def _priced_sum(stats, table, costs, prices):
    """Return what no agreeing table costs less than, as prices show: each edge at its rest."""
    total = 0
    for at, (quantity, start, end) in enumerate(edge_list(stats.schema, table)):
        low, high = bounds_of(stats, table, quantity)
        cost = costs[at] if at < len(costs) else 0
        rest = cost + prices[start] - prices[end]
        total += rest * (low if rest >= 0 else high)
    return total


def _some_flows(stats, table, network):
    counts = list_counts(network, 0)[0]
    return [value_on(stats.schema, table, edge[0], counts) for edge in edge_list(stats.schema, table)]


def _cheapest(network, flows, costs):
    """Return the counts of a table with the smallest cost, and prices that show that it is."""
    nodes = network.shape.nodes
    costs = costs + [0] * (len(network.lows) - len(costs))
    while True:
        prices, ring = _search(_changes(network, flows, costs), len(nodes))
        if ring == []:
            return flows[:network.shape.width], {node: price for node, price in zip(nodes, prices)}
        flows = _changed(flows, ring)


def _changes(network, flows, costs):
    """Return how single flows can change: two nodes, the cost of a unit, the edge, and the greatest change."""
    changes = []
    for at, (start, end) in enumerate(network.shape.ends):
        if flows[at] < network.highs[at]:
            changes.append((start, end, costs[at], at, network.highs[at] - flows[at]))
        if flows[at] > network.lows[at]:
            changes.append((end, start, -costs[at], at, network.lows[at] - flows[at]))
    return changes


def _search(changes, many):
    """Return the prices of the nodes, and an empty list or a ring of changes that saves costs (Bellman and Ford)."""
    prices = [0] * many
    last = [None] * many
    fallen = None
    for _ in range(many):
        fallen = _lower(prices, last, changes)
        if fallen is None:
            return prices, []
    return prices, _ring_before(last, fallen, many)


def _lower(prices, last, changes):
    """Lower the prices that changes undercut; return the last node whose price has fallen, or None."""
    fallen = None
    for change in changes:
        start, end, cost = change[:3]
        if prices[start] + cost < prices[end]:
            prices[end] = prices[start] + cost
            last[end] = change
            fallen = end
    return fallen


def _ring_before(last, node, many):
    # A price that still falls after so many rounds comes from a ring; so many steps back lie in it.
    for _ in range(many):
        node = last[node][0]
    ring = [last[node]]
    while ring[-1][0] != node:
        ring.append(last[ring[-1][0]])
    return ring


def _changed(flows, ring):
    most = min([abs(change[4]) for change in ring])
    flows = list(flows)
    for change in ring:
        flows[change[3]] += most if change[4] > 0 else -most
    return flows
