"""The errors of the package: one class for each kind of wrong argument or refused call."""


class PlanError(ValueError):
    """An error of this package."""


class BadSchema(PlanError):
    """Not a schema, or not a size and widths of one."""


class BadTable(PlanError):
    """Not the number of a table of the schema."""


class BadCell(PlanError):
    """Not a cell of the table."""


class BadData(PlanError):
    """Not data; `table` is the number of the first table that is wrong, or None."""

    def __init__(self, table):
        super().__init__("not data, or not as the schema says")
        self.table = table


class BadQuery(PlanError):
    """Not a query; `part` is the name of the first part that is wrong, or None."""

    def __init__(self, part):
        super().__init__("not a query, or a part of it is wrong here")
        self.part = part


class Unlike(PlanError):
    """Arguments that do not belong together."""


class BadNumber(PlanError):
    """Not a number that is possible here."""


class BadIndex(PlanError):
    """Not an index that is possible here."""


class BadNotes(PlanError):
    """Not statistics or notes; `index` is that of the first note that is wrong, or None."""

    def __init__(self, index):
        super().__init__("not statistics, or a note is wrong")
        self.index = index


class BadPlan(PlanError):
    """Not a plan, or not an order, of the query."""


class BadMemory(PlanError):
    """Not a size of the memory, or not a number of runs or rows that fits it."""


class BadRows(PlanError):
    """Not rows, or not lengths of runs."""


class TooLarge(PlanError):
    """More than the package is ready to list."""


class Disagrees(PlanError):
    """Nothing agrees with the notes; `index` is that of the first table, or note, concerned."""

    def __init__(self, index):
        super().__init__("nothing agrees with the notes")
        self.index = index


class NotPossible(PlanError):
    """Something that cannot be done in this state."""


class NothingDone(PlanError):
    """There is nothing to undo."""


class BadText(PlanError):
    """Not a text of the form; `at` is the place where it goes wrong, or None."""

    def __init__(self, at):
        super().__init__("not a text of this form")
        self.at = at


class BadWeights(PlanError):
    """Not weights for the cells of the table."""


class BadQuantity(PlanError):
    """Not a quantity of the table, or not a note about one."""


class BadMachines(PlanError):
    """Not a number of machines, or not places, homes or machines that are down."""


class BadShipping(PlanError):
    """Not ways to bring rows together for the query and the order."""


class BadExpression(PlanError):
    """Not an expression for the schema."""
