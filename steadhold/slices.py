"""Time: rounds of slots, slots of units, and the environment that runs."""

from steadhold.bounds import is_index
from steadhold.errors import NotValid

SLOTS = 8
UNITS = 6
ENVIRONMENTS = 4


def is_environment(value):
    """True if the value is the number of an environment; it may be anything."""
    return is_index(value, ENVIRONMENTS)


def _are_owners(value):
    if not isinstance(value, list) or len(value) != SLOTS:
        return False
    return all([owner is None or is_environment(owner) for owner in value])


class Slices:
    """The slots of the rounds, with their owners, and the holder of the present slot."""

    def __init__(self, owners):
        if not _are_owners(owners):
            raise NotValid()
        self._owners = list(owners)
        self._turn = 0
        self._unit = 0
        self._holder = None
        self._begin(0)

    def running(self):
        """The environment that runs, or None."""
        return self._holder

    def place(self):
        """The tuple (round, slot, unit)."""
        return (self._turn // SLOTS, self._turn % SLOTS, self._unit)

    def pass_unit(self):
        """Let one unit pass; the owner of the slot if it has ended by it, otherwise None."""
        if self._holder is None:
            return None
        if self._unit + 1 == UNITS:
            return self._end()
        self._unit += 1
        return None

    def give_up(self):
        """Give the rest of the slot up; the owner of the slot, or None if nobody runs."""
        if self._holder is None:
            return None
        return self._end()

    def hand_on(self, environment):
        """Let the environment hold the rest of the slot."""
        if not is_environment(environment):
            raise NotValid()
        if self._holder is not None:
            self._holder = environment

    def _end(self):
        owner = self._owners[self._turn % SLOTS]
        self._begin(self._turn + 1)
        return owner

    def _begin(self, turn):
        """Begin the first slot with an owner from this turn on; turns count the slots of all rounds."""
        for at in range(turn, turn + SLOTS):
            owner = self._owners[at % SLOTS]
            if owner is not None:
                self._turn = at
                self._unit = 0
                self._holder = owner
                return
