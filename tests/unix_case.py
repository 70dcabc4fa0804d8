"""What the tests of a Unix share: a kernel, runs of machines, a Unix to make turns of, and wild programs."""

import random
import unittest

from steadhold.afiles import MountA
from steadhold.bfiles import MountB
from steadhold.disk import Disk
from steadhold.kernel import Kernel
from steadhold.memory import Memory
from steadhold.owning import Types
from steadhold.pipes import Pipes
from steadhold.processes import Process, Table
from steadhold.programs import NAMES

TOP = 2 ** 32 - 1


def new_kernel(share=24, environment=1, frames=32, block_share=60, blocks=64):
    shares, block_shares = [0] * 4, [0] * 4
    shares[environment], block_shares[environment] = share, block_share
    regions = [((0, 3, at),) for at in range(4)]
    return Kernel([0, 1, 2, 3] * 2, frames, shares, Disk(blocks), block_shares, Types(blocks), regions)


class MachineCase(unittest.TestCase):
    """Runs machines for the environment E, and notes what the kernel was asked."""

    E = 1

    def begin(self, share=24, frames=32, block_share=60):
        self.kernel = new_kernel(share, self.E, frames, block_share)
        self.asked = []

    def run_machine(self, machine):
        """The value of the machine's end; what it wants must be the same until it accepts something."""
        stack, count = [machine], 0
        while True:
            wanted = stack[-1].request()
            self.assertEqual(stack[-1].request(), wanted)
            if wanted[0] == "call" and len(wanted) == 2:
                stack.append(wanted[1])
            elif wanted[0] == "end" and len(wanted) == 2:
                stack.pop()
                if not stack:
                    return wanted[1]
                stack[-1].accept(wanted[1])
            else:
                self.asked.append(wanted)
                answer = self.kernel.request(self.E, wanted)
                self.assertEqual(stack[-1].request(), wanted)
                stack[-1].accept(answer)
                self.check_share()
                self.kernel.disk_does(count)
            count += 1
            self.assertLess(count, 100000)

    def check_share(self):
        self.assertLessEqual(self.kernel.frames.charge(self.E), self.kernel.frames.share(self.E))

    def requests_of(self, machine):
        """The list of the requests that the machine makes, and its value."""
        self.asked = []
        value = self.run_machine(machine)
        return self.asked, value

    def entry(self, page):
        return self.kernel.pages.entry(self.E, page)

    def check_memory(self, memory, pipes=None):
        """[58]: what is mapped, held and charged is what the pages and pipes need."""
        led = [frame for slot in range(4) for frame in memory.pages(slot)]
        for slot in range(4):
            frames = memory.pages(slot)
            self.assertLessEqual(len(frames), 6)
            for page in range(6):
                if page < len(frames):
                    right = "rw" if led.count(frames[page]) == 1 else "r"
                    self.assertEqual(self.entry(6 * slot + page), (frames[page], right))
                    self.assertEqual(memory.users(frames[page]), led.count(frames[page]))
                else:
                    self.assertIsNone(self.entry(6 * slot + page))
        of_pipes = []
        for pipe in range(4):
            entry = self.entry(24 + pipe)
            self.assertEqual(entry is not None, pipes is not None and pipes.is_there(pipe))
            if entry is not None:
                self.assertEqual(entry[1], "rw")
                of_pipes.append(entry[0])
        for page in range(28, 32):
            self.assertIsNone(self.entry(page))
        held = sorted(set(led)) + of_pipes
        self.assertEqual(sorted(self.kernel.frames.holdings(self.E)), sorted(held))
        self.assertEqual(memory.held(), len(held))
        self.assertEqual(self.kernel.frames.charge(self.E), len(held))
        self.assertEqual(memory.is_full(), len(held) == self.kernel.frames.share(self.E))
        self.check_share()


class Stub:
    """The fields of a Unix that a turn uses."""

    def __init__(self, environment, share, files):
        self.environment, self.files = environment, files
        self.table, self.memory, self.ports = Table(), Memory(share), {}
        self.pipes = Pipes(self.memory)


class Files:
    """In place of files: passes requests on, and notes them."""

    def __init__(self, files):
        self.files, self.asked = files, []

    def ask(self, request):
        self.asked.append(request)
        return self.files.ask(request)

    @property
    def tree(self):
        return self.files.tree


def file_of(*words):
    return {"words": list(words)}


def dir_of(**names):
    """A directory; the name of n7 is 7."""
    return {"names": {int(name[1:]): part for name, part in names.items()}}


def mount(kind, environment):
    return MountA(environment) if kind == "A" else MountB(environment)


def process_of(table, slot, program=(), parent=0):
    """A new process in the slot."""
    process = Process(table.next_number(), parent, program)
    table.put(slot, process)
    return process


def sets(**words):
    """Instructions that set registers; sets(r1=5)."""
    return [("set", int(name[1:]), word) for name, word in words.items()]


def call(name, *words):
    """Instructions that set r1, r2 and r3, as many as are told, and then call."""
    return [("set", at + 1, word) for at, word in enumerate(words)] + [("call", name)]


def reads(many):
    """Read from the end that r4 tells."""
    return [row for _ in range(many) for row in (("copy", 1, 4), ("call", "read"), ("store", 3, 1))]


def file_rows(draw, path):
    """Write a file, close it, and read it."""
    rows = [*call("open", draw.choice([1, 2]), *path)]
    for _ in range(draw.randrange(5)):
        rows += [*sets(r2=draw.randrange(2 ** 32)), ("call", "write")]
    rows += [("call", "close"), *call("open", 0, *path), ("copy", 4, 1)]
    return rows + reads(draw.randrange(4)) + [("copy", 1, 4), ("call", "close")]


def pipe_rows(draw, at):
    """A child writes to a pipe, and its parent reads, waits and closes."""
    child = [("copy", 1, 5), *sets(r2=draw.randrange(2 ** 32))]
    child += [("call", "write")] * draw.choice([0, 1, 3, 9]) + [("jump", 600)]
    rows = [("call", "pipe"), ("copy", 4, 1), ("copy", 5, 2), ("call", "fork"), ("if", 1, at + 5 + len(child))]
    rows += child + [("copy", 1, 5), ("call", "close")] + reads(draw.choice([1, 4]))
    return rows + [("call", "wait"), ("copy", 1, 4), ("call", "close")]


def statement(draw, at):
    """A few instructions that often do something; the first one is to stand at this place."""
    end = draw.choice([0, 0, 1, 1, 2, 3, 4, 5])
    word = draw.choice([draw.randrange(9), draw.randrange(2 ** 32)])
    address = draw.randrange(24) if draw.random() < 0.94 else draw.choice([24, 31, 32, 39, 40, 47, 48, TOP])
    path = (draw.choice([0, 0, 1, 2]), draw.choice([1, 2, 3, 0]))
    rows = [
        (3, call("grow")),
        (10, sets(r4=address, r5=word) + [("store", 4, 5)]),
        (6, sets(r4=address) + [("load", 3, 4)]),
        (5, call("fork")),
        (4, call("wait")),
        (2, call("pipe")),
        (2, call("read", end)),
        (7, call("write", end, word) + [("call", "write")] * draw.choice([0, 0, 2, 9])),
        (4, call("close", end)),
        (3, call("move", end, draw.choice([0, 1, 2, 3, 4]))),
        (8, call("open", draw.choice([0, 1, 1, 2, 2, 2, 3]), *path)),
        (5, [*sets(r2=path[0], r3=path[1]), ("call", "make")]),
        (2, [*sets(r2=path[0], r3=path[1]), ("call", "drop")]),
        (3, call("sync")),
        (1, call("who")),
        (1, call("send", word, 5)),
        (3, call("receive", 4 * draw.randrange(6) + draw.choice([1, 1, 1, 2]))),
        (0.5, call("exit", draw.randrange(5))),
        (2, [(draw.choice(["add", "sub", "less"]), draw.randrange(6), draw.randrange(6), draw.randrange(6))]),
        (1, [("copy", draw.randrange(6), draw.randrange(6))]),
        (6, sets(r3=draw.randrange(24)) + pipe_rows(draw, at + 1)),
        (6, [*file_rows(draw, path)]),
    ]
    return draw.choices([row for _, row in rows], [weight for weight, _ in rows])[0]


def wild_program(seed, size=None):
    draw = random.Random(seed)
    size = size or draw.choice([20, 60, 200, 400])
    rows = [("call", "grow")] * draw.choice([0, 1, 3, 3, 3, 4])
    while len(rows) < size:
        rows.extend(statement(draw, len(rows)))
    rows = rows[:600]
    for at in range(len(rows)):
        if draw.random() < 0.01:
            rows[at] = ("if", draw.randrange(2), draw.randrange(len(rows) + 2))
        elif draw.random() < 0.002:
            rows[at] = ("jump", draw.randrange(len(rows) + 2))
    return tuple(rows)


assert len(NAMES) == 16
