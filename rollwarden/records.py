"""Records and their numbers (point 10)."""


def record_count(sizes):
    """Returns how many records these sizes have."""
    count = 1
    for size in sizes:
        count = count * size
    return count


def number_of(sizes, record):
    """Returns the number of a record; the first field counts most."""
    number = 0
    for size, value in zip(sizes, record):
        number = number * size + value
    return number


def record_at(sizes, number):
    """Returns the record with this number."""
    values = []
    rest = number
    # The last field counts least, so its value is the first one that comes off the number.
    for size in reversed(sizes):
        values.append(rest % size)
        rest = rest // size
    return tuple(reversed(values))


def all_records(sizes):
    """Yields all records in the order of their numbers."""
    for number in range(record_count(sizes)):
        yield record_at(sizes, number)
