"""Asking for the form of values, and building new tuples from old ones."""


def is_number(value):
    """Tells whether a value is a number."""
    # To Python, True and False are integers; to the document they are no numbers (point 3).
    return isinstance(value, int) and not isinstance(value, bool)


def is_within(value, low, high):
    """Tells whether a value is a number from `low` to `high`."""
    return is_number(value) and low <= value <= high


def is_tuple(value, low, high):
    """Tells whether a value is a tuple with `low` to `high` items."""
    return isinstance(value, tuple) and low <= len(value) <= high


def replaced(items, index, item):
    """Returns the tuple in which this item stands at the index, and all other items as before."""
    changed = list(items)
    changed[index] = item
    return tuple(changed)
