"""Plain values: what counts as an integer or a sequence, and tuples of values."""


def is_integer(value):
    """Return whether a value is an integer."""
    # Python takes True and False for integers, this package does not.
    return isinstance(value, int) and not isinstance(value, bool)


def is_between(value, low, high):
    """Return whether a value is an integer from one bound to the other one."""
    return is_integer(value) and low <= value <= high


def are_between(values, low, high):
    """Return whether all items are integers from one bound to the other one."""
    return all([is_between(value, low, high) for value in values])


def is_sequence(value):
    """Return whether a value is a list or a tuple."""
    return isinstance(value, (list, tuple))


def is_group(value, many):
    """Return whether a value is a tuple with so many items."""
    return isinstance(value, tuple) and len(value) == many


def is_ascending(values):
    """Return whether each item is smaller than the next one."""
    return all([values[at] < values[at + 1] for at in range(len(values) - 1)])


def all_tuples(choices):
    """Return the list of all tuples with one item of each choice, in the order of the choices."""
    tuples = [()]
    for choice in choices:
        tuples = [front + (item,) for front in tuples for item in choice]
    return tuples


def index_groups(many):
    """Return the list of all ascending tuples of indices below a number."""
    groups = [()]
    for index in range(many):
        groups = groups + [group + (index,) for group in groups]
    return groups
