"""[36] and [37]: the requests to the kernel; with [11] at the ends of slots."""

import random
import unittest

from steadhold.disk import Disk
from steadhold.errors import NotValid
from steadhold.kernel import Kernel
from steadhold.owning import Types

REGIONS = [((0, 3, e),) for e in range(4)]
OWNERS = [0, 1, 2, 3, 0, 1, 2, 3]
# No integers: each is no frame, page, index, word, block, environment, right, name, filter, packet or program.
STRANGE = [None, True, False, "", "0", "rw", "r", [], [1], {}, {1: 2}, (), (None,), (0, 1, 2), -1, 2 ** 32, 10 ** 40,
           1.5, b"1", object()]


def new_kernel(owners=None, frames=16, shares=(4, 4, 4, 4), disk=None, blocks=(5, 5, 5, 5), regions=None):
    return Kernel(
        owners or list(OWNERS), frames, list(shares), disk or Disk(24), list(blocks), Types(24),
        REGIONS if regions is None else regions,
    )


class KernelCase(unittest.TestCase):
    def setUp(self):
        self.kernel = new_kernel()

    def ok(self, *request, by=0):
        answer = self.kernel.request(by, request)
        self.assertEqual(answer[0], "ok", (request, answer))
        return answer[1]

    def no(self, word, *request, by=0):
        before = seen(self.kernel)
        self.assertEqual(self.kernel.request(by, request), ("no", word), request)
        self.assertEqual(seen(self.kernel), before)


def seen(kernel):
    """All that can be seen of a kernel."""
    many = len(kernel.frames.free()) + 64
    return [
        [kernel.frames.holdings(e) for e in range(4)], [kernel.frames.taken(e) for e in range(4)],
        [kernel.frames.asked(e) for e in range(4)], kernel.frames.free(),
        [kernel.frames.right(e, frame) for e in range(4) for frame in range(many)],
        [kernel.pages.entry(e, page) for e in range(4) for page in range(32)],
        [kernel.pages.load(e, page, index) for e in range(4) for page in range(32) for index in range(8)],
        kernel.net.filters(), kernel.net.sent(), kernel.net.lost(), [kernel.net.ring(name) for name in range(9)],
        kernel.disk.image(), kernel.disk.queue(), [kernel.blocks.memory_forest(e) for e in range(4)],
        [kernel.blocks.reserved(e) for e in range(4)], kernel.blocks.types.programs(),
        kernel.slices.place(), kernel.running(),
    ]


class Constructor(unittest.TestCase):
    def test_fields(self):
        disk, types = Disk(24), Types(24)
        kernel = Kernel(OWNERS, 16, [4, 4, 4, 4], disk, (5, 5, 5, 5), types, REGIONS)
        self.assertIs(kernel.disk, disk)
        self.assertIs(kernel.blocks.disk, disk)
        self.assertIs(kernel.blocks.types, types)
        self.assertEqual(kernel.slices.place(), (0, 0, 0))
        self.assertEqual(kernel.frames.share(3), 4)
        self.assertIsNone(kernel.pages.entry(0, 0))
        self.assertEqual(kernel.net.filters(), [])
        self.assertEqual(kernel.running(), 0)

    def test_arguments_out_of_bounds(self):
        good = [OWNERS, 16, [4, 4, 4, 4], Disk(24), [5, 5, 5, 5], Types(24), REGIONS]
        Kernel(*good)
        wrong = [
            (0, [OWNERS[:7], OWNERS + [0], [4] * 8, None, tuple(OWNERS), [True] * 8]),
            (1, [7, 65, None, True, "16"]),
            (2, [[4, 4, 4, 5], [4, 4, 4], None, [4, 4, 4, -1], [4, 4, 4, True]]),
            (3, [None, 24, [(0,) * 8] * 24]),
            (4, [[5, 5, 5, 6], (5, 5, 5, 6), [5, 5, 5], None, 20, [5, 5, 5, -1], (5, 5, 5, True), "5555"]),
            (5, [None, [], 2]),
            (6, [None, REGIONS[:3], [((0, 3, 0),)] * 4, [3, None, None, None]]),
        ]
        for at, values in wrong:
            for value in values:
                with self.assertRaises(NotValid):
                    Kernel(*good[:at], value, *good[at + 1:])

    def test_environments_out_of_bounds(self):
        for environment in (-1, 4, None, True, "0"):
            with self.assertRaises(NotValid):
                new_kernel().request(environment, ("pass",))

    def test_lists_are_not_kept(self):
        owners, shares = [0] + [None] * 7, [5, 0, 0, 0]
        kernel = Kernel(owners, 16, [1, 0, 0, 0], Disk(24), shares, Types(24), REGIONS)
        owners[0], shares[0] = 1, 0
        for _ in range(6):
            kernel.unit_passed()
        self.assertEqual(kernel.running(), 0)
        self.assertEqual(kernel.request(0, ("reserve",)), ("ok", 4))


class FrameRequests(KernelCase):
    def test_take_held_and_who(self):
        self.assertEqual(self.ok("held"), ())
        self.assertEqual([self.ok("take") for _ in range(4)], [0, 1, 2, 3])
        self.no("room", "take")
        self.assertEqual(self.ok("take", by=2), 4)
        self.assertEqual(self.ok("held"), (0, 1, 2, 3))
        self.assertEqual(self.ok("who"), (0, 4, 4))
        self.assertEqual(self.ok("who", by=2), (2, 4, 1))

    def test_offer_and_accept(self):
        self.ok("take")
        self.assertIsNone(self.ok("offer", 0, 1, "r"))
        self.no("book", "accept", 0, 0, by=2)
        self.assertIsNone(self.ok("accept", 0, 0, by=1))
        self.assertEqual(self.kernel.frames.right(1, 0), "r")
        self.no("book", "offer", 0, 2, "rw", by=1)
        for value in STRANGE + [9, 16, 77]:
            self.no("book", "offer", value, 1, "r")
            self.no("book", "accept", value, 0, by=1)
            self.no("book", "accept", 0, value, by=2)
            if value not in ("r", "rw"):
                self.no("book", "offer", 0, 1, value)
        for value in STRANGE + [4, 0]:
            self.no("book", "offer", 0, value, "r")

    def test_drop_and_entries(self):
        self.ok("take")
        self.ok("take")
        self.ok("map", 3, 0, "rw")
        self.ok("map", 4, 1, "rw")
        self.ok("map", 5, 0, "r")
        self.assertIsNone(self.ok("drop", 0))
        self.no("fault", "load", 3, 0)
        self.no("fault", "load", 5, 0)
        self.assertEqual(self.ok("load", 4, 0), 0)
        for value in STRANGE + [0, 2, 16]:
            self.no("book", "drop", value)
        self.no("book", "drop", 1, by=1)

    def test_narrow_and_entries(self):
        self.ok("take")
        self.ok("map", 3, 0, "rw")
        self.ok("map", 5, 0, "r")
        self.assertIsNone(self.ok("narrow", 0))
        self.no("fault", "load", 3, 0)
        self.assertEqual(self.ok("load", 5, 0), 0)
        self.no("book", "map", 3, 0, "rw")
        self.ok("map", 3, 0, "r")
        self.no("book", "narrow", 0)
        for value in STRANGE + [2, 16]:
            self.no("book", "narrow", value)

    def test_map_and_unmap(self):
        self.ok("take")
        self.assertIsNone(self.ok("map", 31, 0, "rw"))
        for value in STRANGE + [32]:
            self.no("book", "map", value, 0, "r")
            self.no("book", "map", 0, value, "r")
            self.no("fault", "unmap", value)
            if value not in ("r", "rw"):
                self.no("book", "map", 0, 0, value)
        self.no("book", "map", 0, 0, "r", by=1)
        self.assertIsNone(self.ok("unmap", 31))
        self.no("fault", "unmap", 31)

    def test_load_and_store(self):
        self.ok("take")
        self.ok("map", 2, 0, "rw")
        self.ok("map", 1, 0, "r")
        self.assertIsNone(self.ok("store", 2, 7, 2 ** 32 - 1))
        self.assertEqual(self.ok("load", 1, 7), 2 ** 32 - 1)
        self.no("fault", "store", 1, 7, 5)
        self.no("fault", "load", 2, 7, by=1)
        for value in STRANGE + [8]:
            self.no("fault", "load", 2, value)
            self.no("fault", "store", 2, value, 1)
        for value in STRANGE + [3, 32]:
            self.no("fault", "load", value, 0)
            self.no("fault", "store", value, 0, 1)
        for value in STRANGE:
            self.no("fault", "store", 2, 0, value)

    def test_frames_that_are_asked_back(self):
        kernel = self.kernel = new_kernel(shares=(1, 4, 4, 4))
        for page in range(3):
            self.ok("map", page, self.ok("take"), "rw")
        self.ok("map", 9, 2, "r")
        kernel.frames.ask_back(0, 2)
        self.assertEqual(self.ok("asked"), 2)
        kernel.gave_up()
        self.assertEqual(self.ok("taken"), ())
        for _ in range(3):
            kernel.gave_up()
        self.assertEqual(self.ok("held"), (0, 1, 2))
        for _ in range(6):
            self.assertEqual(self.ok("held"), (0, 1, 2))
            kernel.unit_passed()
        self.assertEqual(self.ok("held"), (0,))
        self.assertEqual(self.ok("taken"), (2, 1))
        self.assertEqual(self.ok("asked"), 0)
        self.assertEqual(self.ok("load", 0, 0), 0)
        for page in (1, 2, 9):
            self.no("fault", "load", page, 0)
        self.assertEqual(self.ok("taken", by=1), ())

    def test_asking_one_that_owns_no_slot(self):
        """Any two ends of slots are waited for."""
        kernel = self.kernel = new_kernel(owners=[1, 1, 2] + [None] * 5, shares=(0, 4, 4, 4))
        self.ok("map", 0, self.ok("take"), "r")
        kernel.frames.ask_back(0, 1)
        kernel.gave_up()
        self.assertEqual(self.ok("held"), (0,))
        kernel.gave_up()
        self.assertEqual(self.ok("held"), ())
        self.no("fault", "load", 0, 0)

    def test_a_slot_that_was_handed_on_counts_for_its_owner(self):
        kernel = self.kernel = new_kernel(owners=[0, 0, 1] + [None] * 5, shares=(0, 0, 4, 4))
        for e in (0, 1):
            self.ok("take", by=e)
            kernel.frames.ask_back(e, 1)
        self.ok("hand on", 1)
        kernel.gave_up()
        kernel.gave_up()
        self.assertEqual(self.ok("held"), ())
        self.assertEqual(self.ok("held", by=1), (1,))

    def test_nobody_owns_a_slot(self):
        kernel = self.kernel = new_kernel(owners=[None] * 8, shares=(0, 4, 4, 4))
        self.ok("take")
        kernel.frames.ask_back(0, 1)
        for _ in range(9):
            kernel.gave_up()
            kernel.unit_passed()
        self.assertEqual(self.ok("held"), (0,))
        self.assertIsNone(kernel.running())


class NetRequests(KernelCase):
    def test_filter(self):
        self.assertEqual(self.ok("filter", ((0, 7, 4),)), 1)
        self.assertEqual(self.ok("filter", ((0, 7, 1),), by=1), 2)
        self.no("common", "filter", ((0, 1, 0),))
        self.no("common", "filter", (), by=3)
        for value in STRANGE:
            if value != ():
                self.no("form", "filter", value)

    def test_next_and_leave(self):
        name = self.ok("filter", ((0, 3, 0),))
        for first in (4, 8):
            self.kernel.net.come((first, 1, 2, 3, 4, 5))
        for value in STRANGE + [0, 2]:
            self.no("filter", "next", value)
            self.no("filter", "leave", value)
        self.no("filter", "next", name, by=1)
        self.no("filter", "leave", name, by=1)
        self.assertEqual(self.ok("next", name), (4, 1, 2, 3, 4, 5))
        self.assertEqual(self.ok("next", name), (8, 1, 2, 3, 4, 5))
        self.assertIsNone(self.ok("next", name))
        self.assertIsNone(self.ok("leave", name))
        self.no("filter", "next", name)
        self.no("filter", "leave", name)

    def test_send(self):
        self.assertIsNone(self.ok("send", (1, 2, 3, 4, 5, 6)))
        for value in STRANGE + [(1, 2, 3, 4, 5), (1, 2, 3, 4, 5, True), [1, 2, 3, 4, 5, 6]]:
            self.no("form", "send", value)
        self.assertEqual(self.kernel.net.sent(), [(1, 2, 3, 4, 5, 6)])


class SliceRequests(KernelCase):
    def test_pass(self):
        before = seen(self.kernel)
        self.assertIsNone(self.ok("pass"))
        self.assertEqual(seen(self.kernel), before)

    def test_hand_on(self):
        self.assertIsNone(self.ok("hand on", 2))
        self.assertEqual(self.kernel.running(), 2)
        self.assertIsNone(self.ok("hand on", 3))
        self.assertEqual(self.kernel.running(), 2)
        self.assertIsNone(self.ok("hand on", 2, by=2))
        self.assertEqual(self.kernel.running(), 2)
        self.kernel.unit_passed()
        self.assertEqual(self.kernel.slices.place(), (0, 0, 1))
        self.assertIsNone(self.ok("hand on", 0, by=2))
        self.assertEqual(self.kernel.running(), 0)
        for value in STRANGE + [4]:
            self.no("form", "hand on", value)

    def test_units(self):
        for unit in range(6):
            self.assertEqual(self.kernel.slices.place(), (0, 0, unit))
            self.kernel.unit_passed()
        self.assertEqual(self.kernel.running(), 1)
        self.kernel.gave_up()
        self.assertEqual(self.kernel.slices.place(), (0, 2, 0))


class Forms(KernelCase):
    PARTS = {
        "take": 0, "offer": 3, "accept": 2, "drop": 1, "narrow": 1, "held": 0, "map": 3, "unmap": 1, "load": 2,
        "store": 3, "asked": 0, "taken": 0, "filter": 1, "next": 1, "leave": 1, "send": 1, "hand on": 1, "pass": 0,
        "who": 0, "reserve": 0, "unreserve": 1, "fill": 2, "fetch": 1, "words": 1, "forget": 1, "alter": 1,
        "flush": 1, "lasts": 1, "register": 1, "charged": 0,
    }

    def test_another_number_of_parts(self):
        self.ok("take")
        for word, many in self.PARTS.items():
            for other in range(6):
                if other != many:
                    self.no("form", word, *[0] * other)

    def test_values_that_are_no_requests(self):
        before = seen(self.kernel)
        for value in STRANGE + [["pass"], "pass", ("Pass",), ("",), (["pass"],), ({},), (0, "pass"), (("pass",),)]:
            self.assertEqual(self.kernel.request(1, value), ("no", "form"), value)
        self.assertEqual(seen(self.kernel), before)

    def test_blocks(self):
        block = self.ok("reserve")
        self.ok("fill", block, 0)
        self.ok("alter", ((block, (1,) * 8),))
        self.ok("flush", block)
        self.no("busy", "flush", block)
        self.assertTrue(self.kernel.disk_does(5))
        self.assertFalse(self.kernel.disk_does(5))
        self.assertIs(self.ok("lasts", block), True)
        self.assertEqual(self.ok("register", (((), 0, 1, "own"),)), 2)
        self.assertEqual(self.ok("charged"), 1)

    def test_nothing_is_raised(self):
        """Wild requests of all words, with parts of all kinds, and acts of the operator in between."""
        draw = random.Random(36)
        kernel = new_kernel(shares=(1, 2, 3, 4))
        wild = STRANGE + list(range(9)) + ["own", ((0, 3, 1),), (((), 0, 1, "own"),), ((4, (0,) * 8),), (1,) * 6]
        words = {}
        for _ in range(6000):
            word = draw.choice(list(self.PARTS))
            parts = [draw.choice(wild) for _ in range(self.PARTS[word])]
            answer = kernel.request(draw.randrange(4), (word, *parts))
            self.assertEqual(len(answer), 2)
            self.assertIn(answer[0], ("ok", "no"))
            words.setdefault(word, set()).add(answer[0] if answer[0] == "ok" else answer[1])
            if draw.random() < 0.2:
                kernel.unit_passed()
            if draw.random() < 0.1:
                kernel.disk_does(draw.randrange(5))
            if draw.random() < 0.02:
                kernel.frames.ask_back(draw.randrange(4), 2)
        allowed = {
            "take": "room", "offer": "book", "accept": "book", "drop": "book", "narrow": "book", "map": "book",
            "unmap": "fault", "load": "fault", "store": "fault", "filter": "form common", "next": "filter",
            "leave": "filter", "send": "form", "hand on": "form", "reserve": "full", "unreserve": "held busy owns",
            "fill": "held type buffer", "fetch": "held new busy", "words": "buffer",
            "forget": "buffer busy new changed", "alter": "form buffer ill twice types takes gives",
            "flush": "buffer busy forest", "lasts": "buffer", "register": "form full",
        }
        for word, found in words.items():
            self.assertLessEqual(found, {"ok", *allowed.get(word, "").split()}, word)


class Apart(unittest.TestCase):
    """[37]: what one environment asks changes no answer that another one gets."""

    QUESTIONS = [("held",), *[("load", page, index) for page in range(3) for index in range(8)],
                 *[("words", block) for block in range(24)], *[("lasts", block) for block in range(24)]]

    def answers(self, kernel, environment):
        return [kernel.request(environment, question) for question in self.QUESTIONS]

    def begin(self, kernel):
        for page in range(2):
            frame = kernel.request(0, ("take",))[1]
            kernel.request(0, ("map", page, frame, "rw"))
            kernel.request(0, ("store", page, 3, 70 + page))
        block = kernel.request(0, ("reserve",))[1]
        kernel.request(0, ("fill", block, 0))
        kernel.request(0, ("alter", ((block, (1, 2, 3, 4, 5, 6, 7, 8)),)))
        kernel.request(0, ("flush", block))
        kernel.request(0, ("fetch", 0))
        while kernel.disk_does(0):
            pass

    def test_wild_neighbours(self):
        draw = random.Random(37)
        kernel = new_kernel(shares=(2, 2, 2, 2), blocks=(1, 3, 3, 3))
        self.begin(kernel)
        before = self.answers(kernel, 0)
        self.assertIn(("ok", 71), before)
        self.assertIn(("ok", (1, 2, 3, 4, 5, 6, 7, 8)), before)
        wild = list(range(24)) + ["r", "rw", (0,) * 8, ((0, 3, 1),), ((4, (9,) * 8),), ((5, (0,) * 8),), (1,) * 6]
        for _ in range(4000):
            word = draw.choice([word for word in Forms.PARTS])
            parts = [draw.choice(wild) for _ in range(Forms.PARTS[word])]
            kernel.request(draw.randrange(1, 4), (word, *parts))
            self.assertEqual(self.answers(kernel, 0), before)


if __name__ == "__main__":
    unittest.main()
