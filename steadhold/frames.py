"""Frames of memory, and the book of who holds them with which right."""

from steadhold.bounds import is_at_least, is_between, is_index
from steadhold.errors import NotValid
from steadhold.slices import ENVIRONMENTS, is_environment

WORDS = 8
TOP = 2 ** 32 - 1
PATIENCE = 2

_LEAST_FRAMES = 8
_MOST_FRAMES = 64


def is_word(value):
    """True if the value is an integer from 0 to TOP."""
    return is_between(value, 0, TOP)


def includes(held, right):
    """True if who holds with the one right has the other right, too; the other may be anything."""
    if held == "rw":
        return right == "rw" or right == "r"
    return held == "r" and right == "r"


def are_shares(value):
    """True if the value is a list of a share for each environment; it may be anything."""
    if not isinstance(value, list) or len(value) != ENVIRONMENTS:
        return False
    return all([is_at_least(share, 0) for share in value])


class Frames:
    """The frames, their words, and the book of the holdings of the environments."""

    def __init__(self, many, shares):
        if not is_between(many, _LEAST_FRAMES, _MOST_FRAMES) or not are_shares(shares):
            raise NotValid()
        if sum(shares) > many:
            raise NotValid()
        self._words = [[0] * WORDS for _ in range(many)]
        self._shares = list(shares)
        # For each environment a dict from frames to rights; its order is that of the holdings, the eldest first.
        self._rights = [{} for _ in range(ENVIRONMENTS)]
        # For each owner a dict from frames to dicts from the other environments to the offered rights.
        self._offers = [{} for _ in range(ENVIRONMENTS)]
        self._asked = [0] * ENVIRONMENTS
        self._ends_to_wait = [0] * ENVIRONMENTS
        self._taken = [[] for _ in range(ENVIRONMENTS)]

    def take(self, environment):
        """Take the least free frame, with zeros, for the environment; the frame, or None."""
        if not is_environment(environment) or not self._may_hold_more(environment):
            return None
        frame = self.free()[0]
        self._words[frame] = [0] * WORDS
        self._rights[environment][frame] = "rw"
        return frame

    def offer(self, environment, frame, other, right):
        """Offer a held frame to another environment; True if it was done."""
        if not is_environment(other) or other == environment:
            return False
        if not includes(self.right(environment, frame), right):
            return False
        self._offers[environment].setdefault(frame, {})[other] = right
        return True

    def accept(self, environment, frame, owner):
        """Hold a frame that the owner offers; True if it was done."""
        right = self._offered(owner, frame, environment)
        if not includes(self.right(owner, frame), right):
            return False
        if self.right(environment, frame) is not None or not self._may_hold_more(environment):
            return False
        del self._offers[owner][frame][environment]
        self._rights[environment][frame] = right
        return True

    def drop(self, environment, frame):
        """End a holding of the environment by its own will; True if it was done."""
        if self.right(environment, frame) is None:
            return False
        self._end(environment, frame)
        return True

    def narrow(self, environment, frame):
        """Make the right "rw" of a holding into "r"; True if it was done."""
        if self.right(environment, frame) != "rw":
            return False
        self._rights[environment][frame] = "r"
        return True

    def right(self, environment, frame):
        """The right with which the environment holds the frame, or None."""
        if not is_environment(environment) or not self._is_frame(frame):
            return None
        return self._rights[environment].get(frame)

    def holdings(self, environment):
        """The list of the frames that the environment holds, the eldest holding first."""
        if not is_environment(environment):
            return []
        return list(self._rights[environment])

    def charge(self, environment):
        """How many frames the environment holds."""
        return len(self.holdings(environment))

    def share(self, environment):
        """The environment's share of the frames."""
        if not is_environment(environment):
            return 0
        return self._shares[environment]

    def left(self):
        """The number of frames less all charges together."""
        return len(self._words) - sum([len(rights) for rights in self._rights])

    def free(self):
        """The list of the frames that nobody holds, ascending."""
        return [frame for frame in range(len(self._words)) if not self._is_held(frame)]

    def read(self, frame, index):
        """The word of a frame, whoever holds it."""
        if not self._is_frame(frame) or not is_index(index, WORDS):
            raise NotValid()
        return self._words[frame][index]

    def write(self, frame, index, word):
        """Set the word of a frame, whoever holds it."""
        if not self._is_frame(frame) or not is_index(index, WORDS) or not is_word(word):
            raise NotValid()
        self._words[frame][index] = word

    def ask_back(self, environment, many):
        """Ask the environment for some frames; this replaces an older asking."""
        if not is_environment(environment) or not is_at_least(many, 1):
            raise NotValid()
        self._asked[environment] = many
        self._ends_to_wait[environment] = PATIENCE

    def asked(self, environment):
        """How many frames the environment still has to give back."""
        if not is_environment(environment):
            return 0
        return self._asked[environment]

    def slot_ended(self, environment):
        """Note that a slot has ended that counts for the environment; the list of the frames taken by this."""
        if not is_environment(environment):
            raise NotValid()
        if self._ends_to_wait[environment] == 0:
            return []
        self._ends_to_wait[environment] -= 1
        if self._ends_to_wait[environment] > 0:
            return []
        return self._take_back(environment)

    def taken(self, environment):
        """The list of all frames that were ever taken from the environment, in order."""
        if not is_environment(environment):
            return []
        return list(self._taken[environment])

    def _is_frame(self, value):
        return is_index(value, len(self._words))

    def _is_held(self, frame):
        return any([frame in rights for rights in self._rights])

    def _offered(self, owner, frame, other):
        """The right that the owner offers to the other environment, or None."""
        if not is_environment(owner) or not is_environment(other) or not self._is_frame(frame):
            return None
        return self._offers[owner].get(frame, {}).get(other)

    def _may_hold_more(self, environment):
        """Who is below the share may; others only what no environment below its share may still claim."""
        if self._uncharged(environment) > 0:
            return True
        return self.left() > sum([self._uncharged(other) for other in range(ENVIRONMENTS)])

    def _uncharged(self, environment):
        return max(0, self.share(environment) - self.charge(environment))

    def _end(self, environment, frame):
        """End a holding, and with it the offers of its owner; each end counts for an asking."""
        del self._rights[environment][frame]
        self._offers[environment].pop(frame, None)
        self._asked[environment] = max(0, self._asked[environment] - 1)

    def _take_back(self, environment):
        """End the newest holdings, as many as are still asked for, but none within the share."""
        above = max(0, self.charge(environment) - self.share(environment))
        many = min(above, self._asked[environment])
        newest = self.holdings(environment)[::-1][:many]
        for frame in newest:
            self._end(environment, frame)
        self._asked[environment] = 0
        self._taken[environment].extend(newest)
        return newest
