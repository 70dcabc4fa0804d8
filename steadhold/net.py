"""The net: packets that come are put into the rings of filters; packets that are sent leave."""

from steadhold.bounds import is_at_least
from steadhold.errors import NotValid
from steadhold.filters import common, is_filter, is_packet
from steadhold.merged import EMPTY, found, with_filter, without_filter
from steadhold.slices import ENVIRONMENTS, is_environment

RING = 8


def _are_regions(value):
    if not isinstance(value, list) or len(value) != ENVIRONMENTS:
        return False
    told = [region for region in value if region is not None]
    if not all([is_filter(region) for region in told]):
        return False
    return all([common(told[at], other) is None for at in range(len(told)) for other in told[at + 1:]])


class Net:
    """The regions, the registered filters with their rings, and the packets that have left."""

    def __init__(self, regions):
        if not _are_regions(regions):
            raise NotValid()
        self._regions = list(regions)
        # A dict from names to tuples (environment, filter), and one from names to rings, both in ascending order.
        self._enrolled = {}
        self._rings = {}
        self._tree = EMPTY
        self._last_name = 0
        self._sent = []
        self._lost = 0

    def enroll(self, environment, tests):
        """Register a filter; its name, or the common packet for which it is refused."""
        if not is_environment(environment) or not is_filter(tests):
            raise NotValid()
        packet = self._shared_packet(environment, tests)
        if packet is not None:
            return packet
        self._last_name += 1
        self._enrolled[self._last_name] = (environment, tests)
        self._rings[self._last_name] = []
        self._tree = with_filter(self._tree, self._last_name, tests)
        return self._last_name

    def come(self, packet):
        """A packet comes; the name of the filter into whose ring it was put, or None."""
        if not is_packet(packet):
            raise NotValid()
        names = found(self._tree, packet)
        if not names or len(self._rings[names[0]]) == RING:
            self._lost += 1
            return None
        self._rings[names[0]].append(packet)
        return names[0]

    def next(self, environment, name):
        """Take the first packet out of the ring; None if there is none, or no such filter of the environment."""
        if not self.is_enrolled(environment, name) or not self._rings[name]:
            return None
        return self._rings[name].pop(0)

    def give_up(self, environment, name):
        """End a filter and its ring; True if there was such a filter of the environment."""
        if not self.is_enrolled(environment, name):
            return False
        self._tree = without_filter(self._tree, name, self._enrolled[name][1])
        del self._enrolled[name]
        del self._rings[name]
        return True

    def filters(self):
        """The list of the tuples (name, environment, filter), ascending."""
        return [(name, row[0], row[1]) for name, row in self._enrolled.items()]

    def ring(self, name):
        """The list of the packets in the ring, empty if there is no such filter."""
        if not self._is_name(name):
            return []
        return list(self._rings[name])

    def send(self, packet):
        """A packet leaves the machine."""
        if not is_packet(packet):
            raise NotValid()
        self._sent.append(packet)

    def sent(self):
        """The list of the packets that have left, in order."""
        return list(self._sent)

    def lost(self):
        """How many packets that came were lost."""
        return self._lost

    def is_enrolled(self, environment, name):
        """True if the environment has a filter of this name; the name may be anything."""
        return is_environment(environment) and self._is_name(name) and self._enrolled[name][0] == environment

    def _is_name(self, value):
        return is_at_least(value, 1) and value in self._enrolled

    def _shared_packet(self, environment, tests):
        """A packet of the filter that belongs to another environment, by a region or else by a filter, or None."""
        regions = [(owner, region) for owner, region in enumerate(self._regions) if region is not None]
        for owner, other in regions + list(self._enrolled.values()):
            packet = None if owner == environment else common(other, tests)
            if packet is not None:
                return packet
        return None
