"""The kernel: slices, frames, pages, net, disk and blocks, and the requests by which environments use them."""

from steadhold.blocks import Blocks, is_with_word
from steadhold.disk import Disk
from steadhold.errors import NotValid
from steadhold.filters import is_filter, is_packet
from steadhold.frames import Frames
from steadhold.net import Net
from steadhold.owning import Types
from steadhold.pages import Pages
from steadhold.slices import ENVIRONMENTS, Slices, is_environment


def _done(is_done, word):
    """The answer to a request that has no value."""
    return ("ok", None) if is_done else ("no", word)


def _take(kernel, environment):
    frame = kernel.frames.take(environment)
    return ("no", "room") if frame is None else ("ok", frame)


def _offer(kernel, environment, frame, other, right):
    return _done(kernel.frames.offer(environment, frame, other, right), "book")


def _accept(kernel, environment, frame, owner):
    return _done(kernel.frames.accept(environment, frame, owner), "book")


def _drop(kernel, environment, frame):
    is_done = kernel.frames.drop(environment, frame)
    if is_done:
        kernel.pages.ended(environment, frame)
    return _done(is_done, "book")


def _narrow(kernel, environment, frame):
    is_done = kernel.frames.narrow(environment, frame)
    if is_done:
        kernel.pages.narrowed(environment, frame)
    return _done(is_done, "book")


def _held(kernel, environment):
    return ("ok", tuple(kernel.frames.holdings(environment)))


def _map(kernel, environment, page, frame, right):
    return _done(kernel.pages.map(environment, page, frame, right), "book")


def _unmap(kernel, environment, page):
    return _done(kernel.pages.unmap(environment, page), "fault")


def _load(kernel, environment, page, index):
    word = kernel.pages.load(environment, page, index)
    return ("no", "fault") if word is None else ("ok", word)


def _store(kernel, environment, page, index, word):
    return _done(kernel.pages.store(environment, page, index, word), "fault")


def _asked(kernel, environment):
    return ("ok", kernel.frames.asked(environment))


def _taken(kernel, environment):
    return ("ok", tuple(kernel.frames.taken(environment)))


def _filter(kernel, environment, tests):
    if not is_filter(tests):
        return ("no", "form")
    found = kernel.net.enroll(environment, tests)
    return ("no", "common") if isinstance(found, tuple) else ("ok", found)


def _next(kernel, environment, name):
    if not kernel.net.is_enrolled(environment, name):
        return ("no", "filter")
    return ("ok", kernel.net.next(environment, name))


def _leave(kernel, environment, name):
    return _done(kernel.net.give_up(environment, name), "filter")


def _send(kernel, environment, packet):
    if not is_packet(packet):
        return ("no", "form")
    kernel.net.send(packet)
    return ("ok", None)


def _hand_on(kernel, environment, other):
    if not is_environment(other):
        return ("no", "form")
    if kernel.slices.running() == environment:
        kernel.slices.hand_on(other)
    return ("ok", None)


def _pass(kernel, environment):
    return ("ok", None)


def _who(kernel, environment):
    return ("ok", (environment, kernel.frames.share(environment), kernel.frames.charge(environment)))


# For each word of a request the number of its parts, the word too, and what answers it; blocks has the other words.
_REQUESTS = {
    "take": (1, _take),
    "offer": (4, _offer),
    "accept": (3, _accept),
    "drop": (2, _drop),
    "narrow": (2, _narrow),
    "held": (1, _held),
    "map": (4, _map),
    "unmap": (2, _unmap),
    "load": (3, _load),
    "store": (4, _store),
    "asked": (1, _asked),
    "taken": (1, _taken),
    "filter": (2, _filter),
    "next": (2, _next),
    "leave": (2, _leave),
    "send": (2, _send),
    "hand on": (2, _hand_on),
    "pass": (1, _pass),
    "who": (1, _who),
}


class Kernel:
    """Everything that is shared out, and the answers to the requests of the environments."""

    def __init__(self, owners, frames, frame_shares, disk, block_shares, types, regions):
        if not isinstance(disk, Disk) or not isinstance(types, Types):
            raise NotValid()
        if not isinstance(block_shares, (list, tuple)):
            raise NotValid()
        self.slices = Slices(owners)
        self.frames = Frames(frames, frame_shares)
        self.pages = Pages(self.frames)
        self.net = Net(regions)
        self.disk = disk
        self.blocks = Blocks(disk, list(block_shares), types)
        self._owners = list(owners)

    def request(self, environment, request):
        """The answer to a request of the environment; the request may be anything."""
        if not is_environment(environment):
            raise NotValid()
        row = _REQUESTS.get(request[0]) if is_with_word(request) else None
        if row is None:
            return self.blocks.request(environment, request)
        if len(request) != row[0]:
            return ("no", "form")
        action = row[1]
        parts = request[1:]
        return action(self, environment, *parts)

    def unit_passed(self):
        """One unit passes."""
        self._note_end(self.slices.pass_unit())

    def gave_up(self):
        """The rest of the slot is given up."""
        self._note_end(self.slices.give_up())

    def running(self):
        """The environment that runs, or None."""
        return self.slices.running()

    def disk_does(self, index):
        """Let the disk do an operation; True if there was one."""
        return self.blocks.do(index)

    def _note_end(self, owner):
        """A slot of this owner has ended, if there is one: frames that were asked back in vain may be taken."""
        if owner is None:
            return
        for environment in range(ENVIRONMENTS):
            if environment == owner or environment not in self._owners:
                for frame in self.frames.slot_ended(environment):
                    self.pages.ended(environment, frame)
