"""Which part of a program is the first one that is not right (point 26)."""

from rollwarden.handlers import handler_fits
from rollwarden.records import record_count
from rollwarden.tuples import is_tuple, is_within


def wrong_part(program):
    """Returns the name of the first part that is not right, or None."""
    if not is_within(program.switches, 0, 2):
        return "switches"
    if not questions_fit(program):
        return "questions"
    part = wrong_in_services(program)
    if part is not None:
        return part
    if not releases_fit(program):
        return "releases"
    return wrong_number(program)


def is_sequence(value, low, high):
    """Tells whether a value is a list or tuple with `low` to `high` items."""
    return isinstance(value, (list, tuple)) and low <= len(value) <= high


def questions_fit(program):
    """Tells whether the questions are right."""
    # Whether there are too many services is asked only later, so all that were passed count here.
    services = len(program.services)
    return is_sequence(program.questions, 1, 3) and all(
        question_fits(question, services) for question in program.questions)


def question_fits(question, services):
    """Tells whether a question is right in a program with this number of services."""
    if not is_tuple(question, 3, 3):
        return False
    service, args, answers = question
    return is_within(service, 0, services - 1) and is_within(args, 1, 4) and is_within(answers, 1, 4)


def wrong_in_services(program):
    """Returns the name of the first part of the services that is not right, or None."""
    if not is_sequence(program.services, 1, 3):
        return "services"
    for service in range(len(program.services)):
        part = wrong_in_service(program, service)
        if part is not None:
            return part
    return None


def wrong_in_service(program, service):
    """Returns the name of the first part of a service that is not right, or None."""
    entry = program.services[service]
    if not is_tuple(entry, 2, 2):
        return "services"
    instances, versions = entry
    if not is_within(instances, 1, 2):
        return "services"
    if not is_tuple(versions, 1, 3):
        return "versions"
    for version in range(len(versions)):
        part = wrong_in_version(program, service, version)
        if part is not None:
            return part
    return None


def wrong_in_version(program, service, version):
    """Returns the name of the first part of a version that is not right, or None; those below it are right."""
    _, versions = program.services[service]
    if not is_tuple(versions[version], 4, 4):
        return "versions"
    sizes, up, down, handlers = versions[version]
    if not is_tuple(sizes, 1, 3) or not all(is_within(size, 1, 4) for size in sizes):
        return "sizes"
    below = 0
    # The lowest version has no neighbor below: its tables have no entry in place of one for each record.
    entries = 0
    if version > 0:
        below = record_count(versions[version - 1][0])
        entries = record_count(sizes)
    if not table_fits(up, below, record_count(sizes)):
        return "up"
    if not table_fits(down, entries, below):
        return "down"
    if not handlers_fit(program, service, sizes, handlers):
        return "handlers"
    return None


def table_fits(table, entries, records):
    """Tells whether a table has this number of entries, each of which is the number of one of so many records."""
    return is_tuple(table, entries, entries) and all(is_within(number, 0, records - 1) for number in table)


def handlers_fit(program, service, sizes, handlers):
    """Tells whether the entries of a version for the questions are right."""
    questions = len(program.questions)
    if not is_tuple(handlers, questions, questions):
        return False
    for question, handler in zip(program.questions, handlers):
        if handler is not None and question[0] != service:
            return False
        if handler is not None and not handler_fits(program, service, sizes, handler):
            return False
    return True


def releases_fit(program):
    """Tells whether the releases are right."""
    return is_sequence(program.releases, 1, 4) and all(
        release_fits(program, release) for release in program.releases)


def release_fits(program, release):
    """Tells whether a release has a right version for each service and a right value for each switch."""
    if not is_tuple(release, 2, 2):
        return False
    versions, values = release
    services = len(program.services)
    if not is_tuple(versions, services, services) or not is_tuple(values, program.switches, program.switches):
        return False
    for (_, known), version in zip(program.services, versions):
        if not is_within(version, 0, len(known) - 1):
            return False
    return all(is_within(value, 0, 1) for value in values)


def wrong_number(program):
    """Returns the name of the first number about clients and failures that is not right, or None."""
    limits = [
        ("clients", program.clients, 1, 2),
        ("asks", program.asks, 0, 3),
        ("losses", program.losses, 0, 2),
        ("doubles", program.doubles, 0, 2),
        ("crashes", program.crashes, 0, 2),
    ]
    for part, number, low, high in limits:
        if not is_within(number, low, high):
            return part
    return None
