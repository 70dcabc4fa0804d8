"""The world: a kernel, a disk and environments, some of them with a Unix, played by acts."""

from steadhold.afiles import MountA
from steadhold.bfiles import MountB
from steadhold.blocks import is_with_word
from steadhold.bounds import is_at_least, is_index
from steadhold.disk import Disk
from steadhold.errors import NotValid
from steadhold.filters import is_packet
from steadhold.kernel import Kernel
from steadhold.machines import Stack
from steadhold.owning import Types
from steadhold.programs import is_program
from steadhold.slices import ENVIRONMENTS, is_environment
from steadhold.trees import copied
from steadhold.unix import Running, Unix


def _is_integer(value):
    return isinstance(value, int) and not isinstance(value, bool)


def _is_unix(kind):
    return kind == "A" or kind == "B"


def _are_kinds(value):
    if not isinstance(value, list) or len(value) != ENVIRONMENTS:
        return False
    return all([kind is None or kind == "wild" or _is_unix(kind) for kind in value])


def _are_programs(value, kinds):
    if not isinstance(value, list) or len(value) != ENVIRONMENTS:
        return False
    return all([is_program(row) if _is_unix(kind) else row is None for row, kind in zip(value, kinds)])


class Life:
    """The machine of one environment's Unix between two cuts: it mounts the files, then runs."""

    def __init__(self, environment, kind, share, program):
        self._environment = environment
        self._share = share
        self._program = program
        self._machine = MountA(environment) if kind == "A" else MountB(environment)
        self._has_ended = False
        self._mounted = None
        self._unix = None
        self.stack = Stack(self)

    def request(self):
        """Mount, then run, then end."""
        if self._has_ended:
            return ("end", None)
        return ("call", self._machine)

    def accept(self, result):
        """The mounted files; or the rows of the Unix, which it has itself."""
        if self._unix is not None:
            self._has_ended = True
            return
        self._mounted = copied(result.tree)
        self._unix = Unix(self._environment, self._share, result, self._program)
        self._machine = Running(self._unix)

    def rows(self):
        """The rows until now, none before the files are mounted."""
        return [] if self._unix is None else self._unix.rows()

    def tree(self):
        """The files as they are now, or None."""
        return None if self._unix is None else copied(self._unix.files.tree)

    def mounted(self):
        """The tree that was mounted, or None."""
        return None if self._mounted is None else copied(self._mounted)

    def is_resting(self):
        """True if the Unix has begun, and rests."""
        return self._unix is not None and self._unix.is_resting()


def _unit(world, request):
    environment = world.kernel.running()
    if environment is None:
        return False
    if world.makes_request(environment, request):
        world.kernel.unit_passed()
    else:
        world.kernel.gave_up()
    return True


def _disk(world, index):
    return _is_integer(index) and world.kernel.disk_does(index)


def _packet(world, packet):
    return is_packet(packet) and world.kernel.net.come(packet) is not None


def _ask(world, environment, many):
    if not is_environment(environment) or not is_at_least(many, 1):
        return False
    world.kernel.frames.ask_back(environment, many)
    return True


def _cut(world, choices):
    if not isinstance(choices, list) or not all([_is_integer(choice) for choice in choices]):
        return False
    world.cut(choices)
    return True


# For each word of an act the number of its parts, the word too, and what it does.
_ACTS = {
    "unit": (2, _unit),
    "disk": (2, _disk),
    "packet": (2, _packet),
    "ask": (3, _ask),
    "cut": (2, _cut),
}


class World:
    """The kernel and the disk of the present life, and the Unixes of all lives."""

    def __init__(self, blocks, frames, owners, frame_shares, block_shares, kinds, programs):
        if not _are_kinds(kinds) or not _are_programs(programs, kinds) or not isinstance(block_shares, list):
            raise NotValid()
        self.disk = Disk(blocks)
        self._types = Types(blocks)
        self._frames = frames
        self._kinds = list(kinds)
        self._programs = list(programs)
        self.kernel = self._new_kernel(owners, frame_shares, block_shares)
        self._owners = list(owners)
        self._frame_shares = list(frame_shares)
        self._block_shares = list(block_shares)
        # For each life a list of what runs in the environments, None where there is no Unix.
        self._lives = []
        self._answers = []
        self._begin_life()

    def play(self, acts):
        """Play the acts; the list of whether each one changed something."""
        return [self._play(act) for act in acts]

    def settle(self, rounds):
        """Let time go by until all Unixes rest, for so many rounds at most; True if they all rest."""
        for _ in range(rounds):
            if self._all_rest():
                return True
            while self.kernel.disk_does(0):
                pass
            _unit(self, ("pass",))
        return self._all_rest()

    def lives(self):
        """How many lives there have been, the present one too."""
        return len(self._lives)

    def rows(self, environment, life):
        """The rows of a Unix in a life, none where there is no such."""
        found = self._life_of(environment, life)
        return [] if found is None else found.rows()

    def tree(self, environment):
        """The files of a Unix now, None if it has not mounted them."""
        found = self._life_of(environment, len(self._lives) - 1)
        return None if found is None else found.tree()

    def mounted(self, environment, life):
        """The tree that a Unix mounted in a life, None if it had not."""
        found = self._life_of(environment, life)
        return None if found is None else found.mounted()

    def answers(self, environment):
        """The list of the tuples (request, answer) of a wild environment in the present life."""
        return list(self._answers[environment]) if is_environment(environment) else []

    def rests(self, environment):
        """True if the Unix has mounted and rests."""
        found = self._life_of(environment, len(self._lives) - 1)
        return found is not None and found.is_resting()

    def makes_request(self, environment, request):
        """Let the environment that runs make its request, a wild one this; False if it wants none."""
        if self._kinds[environment] == "wild":
            self._answers[environment].append((request, self.kernel.request(environment, request)))
            return True
        found = self._life_of(environment, len(self._lives) - 1)
        return found is not None and found.stack.step(self.kernel, environment)

    def cut(self, choices):
        """The power is cut: the disk and the types stay, everything else begins anew."""
        self.disk.cut(choices)
        self.kernel = self._new_kernel(self._owners, self._frame_shares, self._block_shares)
        self._begin_life()

    def _play(self, act):
        row = _ACTS.get(act[0]) if is_with_word(act) else None
        if row is None or len(act) != row[0]:
            return False
        action = row[1]
        parts = act[1:]
        return action(self, *parts)

    def _new_kernel(self, owners, frame_shares, block_shares):
        regions = [((0, ENVIRONMENTS - 1, environment),) for environment in range(ENVIRONMENTS)]
        return Kernel(owners, self._frames, frame_shares, self.disk, block_shares, self._types, regions)

    def _begin_life(self):
        self._answers = [[] for _ in range(ENVIRONMENTS)]
        self._lives.append([self._new_life(environment) for environment in range(ENVIRONMENTS)])

    def _new_life(self, environment):
        kind = self._kinds[environment]
        if not _is_unix(kind):
            return None
        return Life(environment, kind, self._frame_shares[environment], self._programs[environment])

    def _life_of(self, environment, life):
        """What ran in an environment in a life, or None."""
        if not is_environment(environment) or not is_index(life, len(self._lives)):
            return None
        return self._lives[life][environment]

    def _all_rest(self):
        unixes = [environment for environment in range(ENVIRONMENTS) if _is_unix(self._kinds[environment])]
        return all([self.rests(environment) for environment in unixes])
