"""What the tests of worlds share: worlds with one Unix, and wild requests that are often answered with ok."""

import random
import unittest

from unix_case import TOP, wild_program

from steadhold import checks, judge
from steadhold.afiles import NODE
from steadhold.bfiles import SEGMENT
from steadhold.trees import new_tree
from steadhold.world import World

PASS = ("unit", ("pass",))
TYPES = (
    NODE, SEGMENT, (((), 0, 8, 0),), (((), 0, 8, "own"),), (((), 1, ("word", 0), 0),), (((), 0, 1, 0), ((), 1, 1, "own")), (),
    (((), 0, 2, "own"), ((), 2, 6, 0)),
)
STRANGE = (
    None, 5, "take", (), ("x",), ["take"], ("take", 1), (1, 2), (None,), (("take",),), ("alter",), ("alter", 5), ("alter", ((1, 2),)),
    ("alter", ()), ("fill", True, 0), ("fill", None, 2), ("map", 0), ("map", True, False, None), ("filter", 5), ("filter", [()]),
    ("send", (1,)), ("send", None), ("hand on", 9), ("hand on", None), ("hand on", True), ("register", ((),)), ("register", None),
    ("load", True, 0), ("fetch", -1), ("fetch", "a"), ("words", None), ("words", 64), ("end", 5), ("call", None), ("offer", 0, 1),
    ("offer", [], {}, None), ("accept", None, None), ("store", 0, 0, TOP + 1), ("next", "a"), ("leave", None), ("unit", 5), ("cut", []),
)


def one_unix(kind, program, environment=2, share=24, block_share=56, blocks=64, frames=32, others=None, owners=None):
    """A world with one Unix; the other environments are of the kind that is told."""
    shares, block_shares, programs = [0] * 4, [0] * 4, [None] * 4
    kinds = [others] * 4
    shares[environment], block_shares[environment] = share, block_share
    kinds[environment], programs[environment] = kind, tuple(program)
    return World(blocks, frames, owners or [environment] * 8, shares, block_shares, kinds, programs)


class Wild:
    """Draws requests of a wild environment, with what it has and with what it has not."""

    def __init__(self, draw, world, environment, tag=None):
        self.draw, self.world, self.environment, self.tag = draw, world, environment, tag

    def word(self):
        if self.tag is not None:
            return self.tag + self.draw.randrange(1000)
        return self.draw.choice([0, 1, 2, self.draw.randrange(2 ** 32)])

    def block(self):
        blocks = self.world.kernel.blocks
        mine = self.draw.choice([
            [self.environment], blocks.reserved(self.environment), list(blocks.memory_forest(self.environment))])
        return self.draw.choice(mine) if mine and self.draw.random() < 0.8 else self.draw.randrange(64)

    def frame(self):
        mine = self.world.kernel.frames.holdings(self.environment)
        return self.draw.choice(mine) if mine and self.draw.random() < 0.8 else self.draw.randrange(34)

    def page(self):
        return self.draw.randrange(5) if self.draw.random() < 0.9 else self.draw.choice([5, 31, 32, 33])

    def words(self):
        if self.draw.random() < 0.4:
            return tuple(self.word() for _ in range(8))
        return tuple(self.block() if self.draw.random() < 0.4 else 0 for _ in range(8))

    def alter(self):
        reserved = self.world.kernel.blocks.reserved(self.environment)
        if reserved and self.draw.random() < 0.3:
            root = (self.draw.choice(reserved), self.draw.randrange(8)) + (0,) * 6
            return ("alter", ((self.environment, root),))
        return ("alter", tuple((self.block(), self.words()) for _ in range(self.draw.choice([1, 1, 2]))))

    def filter(self):
        e = self.environment
        return self.draw.choice([
            (), ((0, 3, e),), ((0, 3, (e + 1) % 4),), ((0, TOP, self.draw.randrange(12)),), ((1, 1, 1),), ((0, 3, e), (1, TOP, 5))])

    def request(self, but=()):
        """A request, none with these words."""
        draw = self.draw
        if draw.random() < 0.06:
            return draw.choice(STRANGE)
        rows = [
            (2, ("take",)), (1, ("offer", self.frame(), draw.randrange(4), draw.choice(["r", "rw", "x"]))),
            (1, ("accept", draw.randrange(34), draw.randrange(4))), (1, ("drop", self.frame())), (1, ("narrow", self.frame())),
            (3, ("map", self.page(), self.frame(), draw.choice(["r", "rw", "rw"]))), (1, ("unmap", self.page())),
            (4, ("load", self.page(), draw.randrange(8))), (4, ("store", self.page(), draw.randrange(8), self.word())),
            (1, draw.choice([("held",), ("asked",), ("taken",), ("who",), ("charged",), ("pass",)])),
            (1, ("filter", self.filter())), (1, (draw.choice(["next", "leave"]), draw.randrange(12))),
            (1, ("send", tuple(self.word() for _ in range(6)))), (1, ("hand on", draw.choice([self.environment, draw.randrange(4)]))),
            (5, ("reserve",)), (1, ("unreserve", self.block())), (4, ("fill", self.block(), draw.choice([0, 0, draw.randrange(8)]))),
            (3, ("fetch", self.block())), (4, ("words", self.block())), (1, ("forget", self.block())), (6, self.alter()),
            (5, ("flush", self.block())), (1, ("lasts", self.block())), (1, ("register", draw.choice(TYPES))),
        ]
        rows = [(weight, row) for weight, row in rows if row[0] not in but]
        return draw.choices([row for _, row in rows], [weight for weight, _ in rows])[0]


class WorldCase(unittest.TestCase):
    def play(self, world, *acts):
        return world.play(list(acts))

    def units(self, world, many, request=("pass",)):
        return world.play([("unit", request)] * many)

    def disk(self, world):
        """Everything that waits is done."""
        while world.play([("disk", 0)]) == [True]:
            pass

    def settle(self, world, rounds=30000):
        self.assertTrue(world.settle(rounds))

    def lasting(self, world, environment, kind):
        image = world.disk.image()
        return (checks.tree_of_a if kind == "A" else checks.tree_of_b)(image, environment)

    def check_forests(self, world):
        """What lasts is a forest for each environment, apart from one another, without a fault."""
        found = checks.forests(world.disk.image(), world.kernel.blocks.types)
        self.assertEqual(found[0], "ok")
        for environment in range(4):
            self.assertEqual(found[1][environment], world.kernel.blocks.lasting_forest(environment))

    def check_rows(self, world, environment, program, life=None):
        """No fault in the rows of a life; the trees of its syncs, the mounted one first."""
        life = world.lives() - 1 if life is None else life
        rows, tree = world.rows(environment, life), world.mounted(environment, life)
        if tree is None:
            self.assertEqual(rows, [])
            return None
        self.assertEqual(judge.first_fault(program, tree, rows), -1)
        many = len([row for row in rows if row[1] == "sync" and row[2][0] == 1])
        return [tree] + [judge.tree_at_sync(program, tree, rows, which) for which in range(many)]


def wild_world(seed, others="wild"):
    """A world with a Unix that has a wild program; the environment, the kind, the program, and what draws."""
    draw = random.Random(seed)
    environment, kind = draw.randrange(4), draw.choice("AB")
    owners = [draw.choice([0, 1, 2, 3, None]) for _ in range(8)]
    owners[draw.randrange(8)] = environment
    kinds, programs, shares, block_shares = [others] * 4, [None] * 4, [2] * 4, [4] * 4
    kinds[environment], programs[environment] = kind, wild_program(seed, draw.choice([60, 150, 300]))
    shares[environment], block_shares[environment] = draw.choice([4, 10, 22]), draw.choice([8, 15, 45])
    return World(64, 32, owners, shares, block_shares, kinds, programs), environment, kind, programs[environment], draw


assert new_tree() == {"names": {}}
