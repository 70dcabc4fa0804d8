"""What the tests of both libraries of files share: a kernel, runs of machines, cuts, and wild trees."""

import copy
import random
import unittest

from steadhold import checks
from steadhold.disk import Disk, disk_from
from steadhold.kernel import Kernel
from steadhold.machines import Stack
from steadhold.owning import Types
from steadhold.trees import ask, new_tree

NOTHING = (0,) * 8


class Busy:
    """Stands for the kernel; refuses some flushes and lasts as if the disk were busy, and notes all requests."""

    def __init__(self, kernel, draw=None):
        self.kernel, self.draw, self.asked = kernel, draw, []

    def request(self, environment, request):
        if self.draw is not None and request[0] == "flush" and self.draw.random() < 0.5:
            answer = ("no", "busy")
        else:
            answer = self.kernel.request(environment, request)
        self.asked.append((request, answer))
        return answer


class FilesCase(unittest.TestCase):
    """E is the environment of the library; `mount` and `tree_of` are told by the cases below."""

    E = 2

    def begin(self, blocks=64, shares=(0, 0, 60, 0)):
        self.types = Types(blocks)
        self.start(Disk(blocks), shares)

    def start(self, disk, shares=None):
        self.shares = list(shares if shares is not None else self.shares)
        owners, regions = [0, 1, 2, 3] * 2, [None] * 4
        self.kernel = Kernel(owners, 16, [4] * 4, disk, self.shares, self.types, regions)
        self.files = self.run_machine(self.mount(self.E))

    def run_machine(self, machine, through=None, each=None):
        """Runs a machine to its end; the disk does an operation whenever the machine waits for it."""
        through = through or Busy(self.kernel)
        stack = Stack(machine)
        for count in range(20000):
            if not stack.step(through, self.E):
                return stack.value()
            if each is not None:
                each()
            if through.asked[-1][0][0] in ("lasts", "fetch") or through.asked[-1][1] == ("no", "busy"):
                self.kernel.disk_does(count)
        self.fail("the machine does not end")

    def ask(self, *request):
        return self.run_machine(self.files.ask(request))

    def ok(self, *request):
        answer = self.ask(*request)
        self.assertEqual(answer[0], "ok", (request, answer))
        return answer[1]

    def sync(self):
        self.assertEqual(self.ask("sync"), ("ok", None))
        self.check_synced()

    def check_synced(self):
        """Nothing is reserved, no operation waits, and what lasts is the tree."""
        self.assertEqual(self.kernel.blocks.reserved(self.E), [])
        self.assertEqual(self.kernel.disk.queue(), [])
        self.assertEqual(self.tree_of(self.image(), self.E), self.files.tree)
        lasting = self.kernel.blocks.lasting_forest(self.E)
        self.assertEqual(self.kernel.blocks.memory_forest(self.E), lasting)
        self.assertEqual(self.kernel.blocks.charged(self.E), sorted(block for block in lasting if block > 3))
        for block in lasting:
            self.assertEqual(self.kernel.request(self.E, ("fetch", block)), ("ok", "here"))
            self.assertEqual(self.kernel.request(self.E, ("lasts", block)), ("ok", True))

    def image(self):
        return self.kernel.disk.image()

    def forest(self):
        return self.kernel.blocks.lasting_forest(self.E)

    def make(self, tree, path=()):
        """Makes the parts of a plain value by requests."""
        for name, part in tree["names"].items():
            below = path + (name,)
            if "names" in part:
                self.ok("make", below, "dir")
                self.make(part, below)
            else:
                self.ok("make", below, "file")
                if part["words"]:
                    self.ok("put", below, 0, tuple(part["words"]))

    def check_cut(self, choices, allowed):
        """What would be there behind a cut now; the disk itself is not cut."""
        disk = disk_from(self.image())
        for operation in self.kernel.disk.queue():
            disk.add(operation)
        disk.cut(choices)
        found = checks.forests(disk.image(), self.types)
        self.assertEqual(found[0], "ok")
        self.assertIn(self.tree_of(disk.image(), self.E), allowed)
        return disk

    def sync_with_cuts(self, draw, mounts=0.1):
        """A sync, at each moment of which any of the queued writes may be done before a cut."""
        old, new = self.tree_of(self.image(), self.E), copy.deepcopy(self.files.tree)
        seen = []

        def each():
            many = len(self.kernel.disk.queue())
            for choices in ([], [1] * many, [draw.randrange(2) for _ in range(many)]):
                disk = self.check_cut(choices, [old, new])
                seen.append(self.tree_of(disk.image(), self.E))
                if draw.random() < mounts:
                    self.check_mount(disk, seen[-1])

        answer = self.run_machine(self.files.ask(("sync",)), each=each)
        self.assertIn(answer, [("ok", None), ("no", "full")])
        if answer[0] == "no":
            self.assertNotIn(new, [tree for tree in seen if tree != old])
        else:
            self.check_cut([], [new])
        return answer, seen

    def check_mount(self, disk, tree):
        """A new start on the disk mounts this tree."""
        kernel, files = self.kernel, self.files
        self.start(disk_from(disk.image()))
        self.assertEqual(self.files.tree, tree)
        self.check_synced()
        self.kernel, self.files = kernel, files


def wild_request(draw, names=4, depth=3, top=48):
    """A request of the tree that is often answered with ok."""
    path = tuple(draw.randrange(1, names + 1) for _ in range(draw.choice(range(1, depth + 1))))
    word = draw.choice(["make", "make", "make", "make", "put", "put", "shrink", "drop", "drop"])
    if word == "make":
        return (word, path, draw.choice(["dir", "file"]))
    if word == "put":
        return (word, path, draw.choice([0, 0, 0, 3, 8]), tuple(draw.randrange(9) for _ in range(draw.randrange(1, top))))
    if word == "shrink":
        return (word, path, draw.randrange(20))
    return (word, path)


def wild_tree(seed, many):
    draw = random.Random(seed)
    tree = new_tree()
    for _ in range(many):
        ask(tree, wild_request(draw))
    return tree


def file_of(*words):
    return {"words": list(words)}


def dir_of(**names):
    """A directory; the name of n7 is 7."""
    return {"names": {int(name[1:]): part for name, part in names.items()}}


def dir_with(many):
    """A directory with so many empty files."""
    return {"names": {name: file_of() for name in range(1, many + 1)}}
