"""Programs (points 20 to 26)."""

from rollwarden.checks import wrong_part
from rollwarden.errors import BadProgram


class Program:
    """Services in several versions, what clients ask them, and what may fail."""

    def __init__(self, *, questions, services, releases, switches=0, clients=1, asks=1, losses=0, doubles=0,
                 crashes=0):
        # A caller's list may change later, a program may not: so a copy of it is kept. A tuple stays itself.
        self.questions = questions[:]
        self.services = services[:]
        self.releases = releases[:]
        self.switches = switches
        self.clients = clients
        self.asks = asks
        self.losses = losses
        self.doubles = doubles
        self.crashes = crashes
        part = wrong_part(self)
        if part is not None:
            raise BadProgram(part)
