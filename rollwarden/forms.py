"""Converting record numbers from one version of a service to another one (points 11 and 12)."""

from rollwarden.records import record_count

# Where the parts of a version stand in its tuple (sizes, up, down, handlers).
SIZES = 0
UP = 1
DOWN = 2


def versions_of(program, service):
    """Returns the versions of a service, the lowest one first."""
    _, versions = program.services[service]
    return versions


def convert(program, service, first, last, number):
    """Returns what a record number of version `first` becomes in version `last`."""
    versions = versions_of(program, service)
    converted = number
    # The two tables between neighbors both belong to the upper one. At most one loop has steps.
    for version in range(first + 1, last + 1):
        converted = versions[version][UP][converted]
    for version in range(first, last, -1):
        converted = versions[version][DOWN][converted]
    return converted


def first_lost(program, service, version, other):
    """Returns the least record number of `version` that converting to `other` and back changes, or None."""
    sizes = versions_of(program, service)[version][SIZES]
    for number in range(record_count(sizes)):
        there = convert(program, service, version, other, number)
        if convert(program, service, other, version, there) != number:
            return number
    return None


def lost_up(program, service, version):
    """Returns the least record number of this version that the way up and back changes, or None."""
    return first_lost(program, service, version, version + 1)


def lost_down(program, service, version):
    """Returns the least record number of the next version that the way down and back changes, or None."""
    return first_lost(program, service, version + 1, version)
