"""What the document says of plans, runs, choices, machines and questions, by listing every row: slow, and of its own."""

from itertools import permutations, product

from tests import oracle

WAYS = ("gather", "left", "right", "scan")


def inner_variables(query, group):
    return sorted({variable for index in group for variable in query.atoms[index][1]})


def table_rows(data, table):
    """The rows of a table, each one as its cell."""
    found = []
    for cell, count in zip(oracle.cells(data.schema, table), data.tables[table]):
        found += [cell] * count
    return found


def fits(query, variables, cell, known):
    """The values that a row has with a cell, or None if it is not allowed or other values are known."""
    values = dict(known)
    for variable, value in zip(variables, cell):
        if value not in oracle.allowed(query, variable) or values.get(variable, value) != value:
            return None
        values[variable] = value
    return values


def rows(query, data, group):
    """The rows of some atoms, each one as often as its count, as dicts."""
    found = [{}]
    for index in group:
        table, variables = query.atoms[index]
        longer = [fits(query, variables, cell, known) for known in found for cell in table_rows(data, table)]
        found = [values for values in longer if values is not None]
    return found


def may_have(query, before, index, way):
    """Whether the step with an atom behind others can have a way."""
    if not before:
        return way == "scan"
    variables, known = query.atoms[index][1], inner_variables(query, before)
    if way == "left":
        return variables[0] in known
    if way == "right":
        return len(variables) == 2 and variables[1] in known
    return way in ("gather", "scan")


def plan_names(query):
    """The ascending list of the pairs of order and ways of all plans."""
    found = []
    for order in permutations(range(len(query.atoms))):
        for ways in product(WAYS, repeat=len(order)):
            if all(may_have(query, order[:step], order[step], ways[step]) for step in range(len(order))):
                found.append((order, ways))
    return sorted(found)


def reads(query, data, before, index, way):
    table, variables = query.atoms[index]
    known, own = rows(query, data, before), table_rows(data, table)
    if way == "scan":
        return sum(1 for _ in known for _ in own)
    if way == "gather":
        return len(known) + len(own)
    column = ("left", "right").index(way)
    return sum(1 for row in known for cell in own if row[variables[column]] == cell[column])


def step_costs(query, data, order, ways):
    found = []
    for step, (index, way) in enumerate(zip(order, ways)):
        made = len(rows(query, data, order[:step + 1]))
        found.append((reads(query, data, order[:step], index, way), made))
    return found


def costs(query, data, kept=None):
    """A dict from the names of all plans to their costs."""
    kept = {} if kept is None else kept
    found = {}
    for order, ways in plan_names(query):
        total = 0
        for step, (index, way) in enumerate(zip(order, ways)):
            key = (frozenset(order[:step]), index, way)
            if key not in kept:
                made = len(rows(query, data, order[:step + 1]))
                kept[key] = made + reads(query, data, order[:step], index, way)
            total += kept[key]
        found[(order, ways)] = total
    return found


class Machines:
    """Rows that really are at machines, and are moved one by one."""

    def __init__(self, query, data, many, places, order):
        self.query, self.data, self.many, self.places, self.order = query, data, many, places, order
        self.done = 1
        self.made = self.rows_at(order[0])

    def rows_at(self, index):
        """The rows of an atom, in a list for each machine."""
        table, variables = self.query.atoms[index]
        found = [[] for _ in range(self.many)]
        for cell in table_rows(self.data, table):
            values = fits(self.query, variables, cell, {})
            if values is not None:
                place = self.places[table]
                found[0 if place is None else cell[place] % self.many].append(values)
        return found

    def move(self, lists, target):
        """Move rows to the machine that is told for each of them; return the lists, and how many have changed it."""
        found, changed = [[] for _ in range(self.many)], 0
        for machine, here in enumerate(lists):
            for row in here:
                changed += target(row) != machine
                found[target(row)].append(row)
        return found, changed

    def step(self, way):
        """Do a step; return the number of moved rows."""
        other = self.rows_at(self.order[self.done])
        self.done += 1
        if way == ("copy",):
            every = [row for here in other for row in here]
            changed = sum(1 for _ in every for machine in range(self.many) if machine > 0)
            other = [every for _ in range(self.many)]
        else:
            target = (lambda row: 0) if way == ("gather",) else (lambda row: row[way[1]] % self.many)
            self.made, first = self.move(self.made, target)
            other, second = self.move(other, target)
            changed = first + second
        self.made = [
            [{**one, **two} for one in here for two in there if all(one.get(key, two[key]) == two[key] for key in two)]
            for here, there in zip(self.made, other)
        ]
        return changed

    def shown(self):
        """What the rows at each machine show."""
        found = []
        for here in self.made:
            sums = {}
            for row in here:
                told = tuple(row[variable] for variable in self.query.shown)
                sums[told] = sums.get(told, 0) + 1
            found.append({told: sums[told] for told in sorted(sums)})
        return found


def ways_of(query, order):
    """All ways in which an order can be run on several machines."""
    choices = []
    for step in range(1, len(order)):
        known = inner_variables(query, order[:step])
        shared = sorted(set(query.atoms[order[step]][1]) & set(known))
        choices.append([("gather",), ("copy",)] + [("split", variable) for variable in shared])
    return list(product(*choices))


def first_spot(query, places, index):
    table, variables = query.atoms[index]
    return None if places[table] is None else variables[places[table]]


def spot_after(spot, way):
    return {"copy": spot, "gather": None}.get(way[0], way[-1])


def moved_by_hand(query, data, many, places, order, ways):
    machines = Machines(query, data, many, places, order)
    return [machines.step(way) for way in ways], machines.shown()


def least_sums(query, places, order, numbers_of):
    """The least sums for all numbers of atoms and spots, of what `numbers_of` tells for the first steps."""
    found = {}
    for ways in ways_of(query, order):
        numbers, spot = numbers_of(ways), first_spot(query, places, order[0])
        for many in range(len(order)):
            if many > 0:
                spot = spot_after(spot, ways[many - 1])
            total = sum(numbers[:many])
            found[(many + 1, spot)] = min(total, found.get((many + 1, spot), total))
    return found


def tree_heights(values, left, kept):
    """The least height of a tree for the tables that are left; values are a list for each quantity."""
    if len(left) <= 1:
        return 0
    if left not in kept:
        heights = []
        for told in values:
            parts = {}
            for index in left:
                parts.setdefault(told[index], []).append(index)
            if len(parts) > 1:
                heights.append(1 + max(tree_heights(values, frozenset(part), kept) for part in parts.values()))
        kept[left] = min(heights)
    return kept[left]
