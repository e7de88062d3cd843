"""Pairs, the verdict about a plan, the certificate of it and the checker (points 74 to 78)."""

from rollwarden.checker import Checker
from rollwarden.effects import behind
from rollwarden.ideal import beside, first_ideal, signed
from rollwarden.machine import start
from rollwarden.search import searched


def first_pair(program, plan):
    """Returns the first pair."""
    state = start(program)
    return (state, beside(program, plan, state, [first_ideal(program)]))


def next_pair(program, plan, pair, act):
    """Returns the pair behind an act that the state of the pair allows."""
    state, sign = behind(program, plan, pair[0], act)
    return (state, beside(program, plan, state, signed(pair[1], sign)))


def judge(program, plan, limit):
    """Returns the verdict: whether all runs are explained, as far as at most `limit` pairs tell."""
    return searched(program, plan, limit).verdict


def certificate(program, plan, limit):
    """Returns the list of the rows (state, ideals, targets) if the verdict is "one", otherwise None."""
    search = searched(program, plan, limit)
    if search.verdict[0] != "one":
        return None
    return [
        (state, search.ideals.met[ideals], targets)
        for (state, ideals), targets in zip(search.pairs, search.targets)
    ]


def check(program, plan, rows):
    """Tells whether the checker accepts the rows."""
    checker = Checker(program, plan, rows)
    if not checker.begins_rightly():
        return False
    for index in range(len(rows)):
        if not checker.accepts(index):
            return False
    return True
