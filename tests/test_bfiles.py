"""[50] to [52]: files of form B."""

import copy
import random
import unittest

from files_case import NOTHING, Busy, FilesCase, dir_of, dir_with, file_of, wild_request, wild_tree

from steadhold.bfiles import SEGMENT, MountB, stream_of
from steadhold.checks import tree_of_b
from steadhold.owning import is_program
from steadhold.segments import image_of, parts_of, tree_of, written
from steadhold.trees import new_tree


class BCase(FilesCase):
    def setUp(self):
        self.deeds = []

    def mount(self, environment):
        self.deeds = []
        return MountB(environment)

    def tree_of(self, image, environment):
        return tree_of_b(image, environment)

    def ask(self, *request):
        answer = super().ask(*request)
        if answer[0] == "ok" and request[0] in ("make", "put", "shrink", "drop"):
            self.deeds += written(request)
        return answer

    def chain(self):
        """The blocks of the segments, read off the disk."""
        image, found = self.image(), []
        block = image[self.E][0]
        while block:
            found.append(block)
            block = image[block][0]
        return found

    def parts(self):
        return [self.image()[block][1:] for block in self.chain()]

    def synced(self):
        """A sync that is done as the document says; True if it wrote an image."""
        old_chain, old_parts = self.chain(), self.parts()
        new, image = parts_of(self.deeds), parts_of(image_of(self.files.tree))
        is_image = len(old_parts) + len(new) > 2 * len(image) + 4
        had_deeds = bool(self.deeds)
        self.sync()
        self.deeds = []
        if not had_deeds:
            self.assertEqual((self.chain(), self.parts()), (old_chain, old_parts))
            return None
        if is_image:
            self.assertEqual(self.parts(), image)
            self.assertFalse(set(self.chain()) & set(old_chain))
        else:
            self.assertEqual(self.parts(), old_parts + new)
            self.assertEqual(self.chain()[:len(old_chain)], old_chain)
        return is_image

    def check_synced(self):
        super().check_synced()
        self.assertEqual(len(self.forest()) - 1, len(self.chain()))


class Program(unittest.TestCase):
    def test_segment(self):
        self.assertEqual(SEGMENT, (((), 0, 1, "own"),))
        self.assertTrue(is_program(SEGMENT, 2))

    def test_stream_of(self):
        table = {9: (4, 1, 2, 3, 4, 5, 6, 7), 4: (11, 0, 0, 0, 0, 0, 0, 8), 11: (0, 9, 0, 0, 0, 0, 0, 0)}
        before = dict(table)
        self.assertEqual(stream_of(table, 9), [1, 2, 3, 4, 5, 6, 7] + [0] * 6 + [8, 9] + [0] * 6)
        self.assertEqual(stream_of(table, 11), [9] + [0] * 6)
        self.assertEqual(stream_of(table, 0), [])
        self.assertEqual(stream_of([table.get(block) for block in range(12)], 4), [0] * 6 + [8, 9] + [0] * 6)
        self.assertEqual(table, before)


class Mounting(BCase):
    def test_a_new_disk(self):
        self.begin()
        self.assertEqual(self.files.tree, new_tree())
        self.assertEqual(self.types.programs(), [SEGMENT])
        self.assertEqual(self.kernel.request(self.E, ("words", self.E)), ("ok", NOTHING))

    def test_what_lasts_is_read(self):
        self.begin()
        tree = dir_of(n1=dir_of(n2=file_of(*range(48)), n3=dir_with(5)), n4=file_of(1), n5=dir_of(), n6=file_of())
        self.make(tree)
        self.synced()
        self.ok("drop", (6,))
        self.synced()
        del tree["names"][6]
        self.start(self.kernel.disk)
        self.assertEqual(self.files.tree, tree)
        self.check_synced()
        self.assertIsNone(self.synced())


class Asking(BCase):
    def test_requests_are_answered_at_once(self):
        self.begin()
        kernel = Busy(self.kernel)
        machine = self.files.ask(("make", (1,), "file"))
        self.assertEqual(machine.request(), ("end", ("ok", None)))
        for request, answer in (
            (("make", (1,), "dir"), ("no", "there")), (("put", (1,), 1, (5,)), ("ok", None)),
            (("get", (1,), 0, 9), ("ok", (0, 5))), (("size", (1,)), ("ok", 2)), (("list", ()), ("ok", (1,))),
            (("drop", (2,)), ("no", "path")),
        ):
            self.assertEqual(self.run_machine(self.files.ask(request), kernel), answer)
        self.assertEqual(kernel.asked, [])
        self.assertEqual(self.files.tree, dir_of(n1=file_of(0, 5)))

    def test_anything_else(self):
        self.begin()
        for request in (
            None, "sync", ("sync", 1), (), ["sync"], ("make",), ("make", (0,), "dir"), ("put", (1,), 0, ()), 3,
            ("pass",), ("sync",) * 2, ("get", (True,), 0, 1), ("shrink", (1,), 49),
        ):
            self.assertEqual(self.run_machine(self.files.ask(request)), ("no", "request"))


class Syncs(BCase):
    def test_without_deeds(self):
        self.begin()
        kernel = Busy(self.kernel)
        self.assertEqual(self.run_machine(self.files.ask(("sync",)), kernel), ("ok", None))
        self.ask("drop", (7,))
        self.ask("list", ())
        self.assertEqual(self.run_machine(self.files.ask(("sync",)), kernel), ("ok", None))
        self.assertEqual(kernel.asked, [])
        self.ok("make", (1,), "dir")
        self.assertIs(self.synced(), False)
        self.assertEqual(self.run_machine(self.files.ask(("sync",)), kernel), ("ok", None))
        self.assertEqual(kernel.asked, [])

    def test_the_first_one(self):
        self.begin()
        self.make(dir_of(n1=file_of(5, 6, 7, 8)))
        self.assertIs(self.synced(), False)
        first, last = self.chain()
        kind = self.image()[self.E][1]
        self.assertEqual(self.types.programs()[kind - 2], SEGMENT)
        self.assertEqual(self.image()[self.E], (first, kind) + (0,) * 6)
        self.assertEqual(self.image()[first], (last, 2, 1, 1, 3, 1, 1, 0))
        self.assertEqual(self.image()[last], (0, 4, 5, 6, 7, 8, 0, 0))
        self.assertEqual(self.forest(), {self.E: (None, 1), first: (self.E, kind), last: (first, kind)})

    def test_one_that_adds(self):
        self.begin()
        self.ok("make", (1,), "file")
        self.synced()
        self.ok("put", (1,), 0, (1, 2, 3))
        self.ok("shrink", (1,), 2)
        self.assertIs(self.synced(), False)
        self.assertEqual(self.parts(), [(2, 1, 1, 0, 0, 0, 0), (3, 1, 1, 0, 3, 1, 2), (3, 4, 1, 1, 2, 0, 0)])

    def test_deeds_that_change_nothing_are_deeds(self):
        self.begin()
        self.ok("make", (1,), "file")
        self.synced()
        self.ok("shrink", (1,), 9)
        self.assertIs(self.synced(), False)
        self.assertEqual(self.parts()[1], (4, 1, 1, 9, 0, 0, 0))

    def test_deeds_that_were_refused_are_not_in_the_stream(self):
        self.begin()
        self.ok("make", (1,), "file")
        for request in (("make", (1,), "dir"), ("drop", (2,)), ("put", (), 0, (1,)), ("shrink", (3,), 0), ("size", (1,))):
            self.ask(*request)
        self.ok("drop", (1,))
        self.synced()
        self.assertEqual(self.parts(), [(2, 1, 1, 5, 1, 1, 0)])

    def test_both_sides_of_the_bound(self):
        """i is 1; c + p is 6 at most when segments are added, and 7 leads to an image."""
        self.begin()
        self.ok("make", (1,), "dir")
        for many in range(1, 7):
            self.assertIs(self.synced(), False)
            self.assertEqual(len(self.chain()), many)
            self.ok("make", (2,), "dir")
            self.ok("drop", (2,))
        self.assertIs(self.synced(), True)
        self.assertEqual(self.parts(), [(1, 1, 1, 0, 0, 0, 0)])

    def test_the_bound_without_an_image(self):
        self.begin()
        for many in range(1, 5):
            self.ok("make", (2,), "dir")
            self.ok("drop", (2,))
            self.assertIs(self.synced(), False)
            self.assertEqual(len(self.chain()), many)
        self.ok("make", (2,), "dir")
        self.ok("drop", (2,))
        self.assertIs(self.synced(), True)
        self.assertEqual(self.chain(), [])
        self.assertEqual(self.image()[self.E], NOTHING)
        self.assertEqual(self.forest(), {self.E: (None, 1)})
        self.start(self.kernel.disk)
        self.assertEqual(self.files.tree, new_tree())
        self.ok("make", (2,), "dir")
        self.assertIs(self.synced(), False)

    def test_an_image_without_parts_and_without_old_segments(self):
        self.begin()
        for _ in range(5):
            self.ok("make", (2,), "dir")
            self.ok("drop", (2,))
        self.assertIs(self.synced(), True)
        self.assertEqual(self.image()[self.E], NOTHING)
        self.assertEqual(self.files.tree, new_tree())

    def test_an_image_at_the_first_sync(self):
        self.begin()
        self.ok("make", (1,), "file")
        for _ in range(8):
            self.ok("put", (1,), 0, (1, 2, 3))
        self.assertIs(self.synced(), True)
        self.assertEqual(self.parts(), parts_of([2, 1, 1, 3, 1, 1, 0, 3, 1, 2, 3]))

    def test_a_sync_that_is_refused(self):
        """With each number of blocks left, both when segments are added and when an image is due."""
        tree = dir_of(n1=file_of(*range(20)), n2=dir_with(2))
        lasting = len(parts_of(image_of(tree)))
        for more in (
            [("make", (5,), "file"), ("put", (5,), 0, tuple(range(30)))],
            [("put", (1,), 0, tuple(range(40)))] * 5,
        ):
            results = []
            for left in range(12):
                self.begin(32, (0, 0, lasting + left, 28 - lasting - left))
                self.make(tree)
                self.synced()
                image = self.image()
                for request in more:
                    self.ok(*request)
                kernel = Busy(self.kernel)
                answer = self.run_machine(self.files.ask(("sync",)), kernel)
                results.append(answer)
                if answer == ("no", "full"):
                    self.assertEqual(self.image(), image)
                    self.assertEqual(self.kernel.blocks.reserved(self.E), [])
                    self.assertEqual(len(self.kernel.blocks.charged(self.E)), lasting)
                    words = [request[0] for request, _ in kernel.asked]
                    self.assertEqual(words, ["reserve"] * (left + 1) + ["unreserve"] * left)
                    self.run_machine(self.files.ask(("sync",)), kernel)
                    self.assertEqual(self.image(), image)
                else:
                    self.check_synced()
            self.assertEqual(results, sorted(results))
            self.assertEqual(len(set(results)), 2)

    def test_a_refused_sync_and_a_later_one(self):
        self.begin(24, (0, 0, 0, 0))
        self.ok("make", (1,), "file")
        self.ok("put", (1,), 0, tuple(range(40)))
        self.synced()
        taken = [self.kernel.request(0, ("reserve",))[1] for _ in range(9)]
        self.ok("put", (1,), 8, tuple(range(30)))
        self.assertEqual(self.ask("sync"), ("no", "full"))
        self.ok("shrink", (1,), 39)
        self.assertEqual(self.ask("sync"), ("no", "full"))
        for block in taken:
            self.kernel.request(0, ("unreserve", block))
        self.assertIs(self.synced(), False)

    def test_requests_that_are_answered_busy_are_made_again(self):
        self.begin()
        draw = random.Random(52)
        for round_number in range(8):
            self.ok("make", (round_number + 10,), "file")
            for _ in range(8):
                self.ask(*wild_request(draw, top=9))
            kernel = Busy(self.kernel, draw)
            self.assertEqual(self.run_machine(self.files.ask(("sync",)), kernel), ("ok", None))
            self.check_synced()
            self.assertIn(("no", "busy"), [answer for _, answer in kernel.asked])

    def asked_by_a_sync(self):
        kernel = Busy(self.kernel)
        self.assertEqual(self.run_machine(self.files.ask(("sync",)), kernel), ("ok", None))
        return [request for request, answer in kernel.asked if answer not in (("no", "busy"), ("ok", False))]

    def test_order_of_a_sync_that_adds(self):
        self.begin()
        self.ok("make", (1,), "file")
        self.synced()
        old = self.chain()[0]
        self.ok("put", (1,), 0, tuple(range(9)))
        kind = self.image()[self.E][1]
        asked = self.asked_by_a_sync()
        _, one, two = self.chain()
        rows = [(two, (0, 2, 3, 4, 5, 6, 7, 8)), (one, (two, 3, 1, 1, 0, 9, 0, 1)), (old, (one, 2, 1, 1, 0, 0, 0, 0))]
        self.assertEqual([request for request in asked if request[0] != "lasts"], [
            ("reserve",), ("reserve",), ("fill", two, kind), ("alter", (rows[0],)), ("flush", two),
            ("fill", one, kind), ("alter", (rows[1],)), ("flush", one), ("alter", (rows[2],)), ("flush", old),
        ])
        waited = [request[1] for request in asked if request[0] == "lasts"]
        self.assertEqual((sorted(waited[:-1]), waited[-1]), (sorted([one, two]), old))
        self.assertEqual(asked[-3:-1], [("alter", (rows[2],)), ("flush", old)])

    def test_order_of_a_sync_that_writes_an_image(self):
        self.begin()
        self.ok("make", (1,), "file")
        for _ in range(3):
            self.ok("make", (2,), "dir")
            self.ok("drop", (2,))
        self.synced()
        old, parts = self.chain(), self.parts()
        self.assertEqual(len(old), 3)
        for _ in range(4):
            self.ok("make", (2,), "dir")
            self.ok("drop", (2,))
        kind = self.image()[self.E][1]
        asked = self.asked_by_a_sync()
        new, = self.chain()
        self.assertEqual(asked, [
            ("reserve",), ("fill", new, kind), ("alter", ((new, (0, 2, 1, 1, 0, 0, 0, 0)),)), ("flush", new),
            ("lasts", new), ("alter", ((old[1], (0,) + parts[1]),)), ("alter", ((old[0], (0,) + parts[0]),)),
            ("alter", ((self.E, (new, kind, 0, 0, 0, 0, 0, 0)),)), ("flush", self.E), ("lasts", self.E),
        ])

    def test_wild_changes(self):
        for seed in range(6):
            self.begin(64, (0, 0, 0, 0))
            draw = random.Random(seed)
            found = []
            for round_number in range(40):
                for _ in range(draw.choice([0, 1, 1, 2, 4])):
                    self.ask(*wild_request(draw, names=3, depth=2, top=12))
                if draw.random() < 0.1:
                    self.drop_all()
                found.append(self.synced())
                if round_number % 7 == 6:
                    self.start(self.kernel.disk)
                    self.check_synced()
            self.assertEqual({True, False, None}, set(found))

    def drop_all(self, path=()):
        for name in self.ok("list", path):
            if self.ask("list", path + (name,))[0] == "ok":
                self.drop_all(path + (name,))
            self.ok("drop", path + (name,))


class Cuts(BCase):
    def test_cuts_at_every_moment(self):
        for seed in range(4):
            draw = random.Random(seed)
            self.begin(32, (0, 0, 0, 0))
            grown_by = []
            for _ in range(25):
                self.ask_for_a_deed(draw)
                for _ in range(draw.choice([0, 1, 3])):
                    self.ask(*wild_request(draw, names=2, depth=2, top=9))
                before = len(self.chain())
                _, seen = self.sync_with_cuts(draw, 0.05)
                grown_by.append(len(self.chain()) - before)
                self.assertTrue(not seen or seen[0] == seen[1])
            self.assertLess(min(grown_by), 0)
            self.assertGreater(max(grown_by), 0)

    def ask_for_a_deed(self, draw):
        if self.ask("size", (1,))[0] == "ok":
            self.ask("put", (1,), 0, tuple(draw.randrange(9) for _ in range(4)))
        else:
            self.ask("make", (1,), "file")

    def test_a_cut_and_a_new_mount(self):
        self.begin()
        self.make(wild_tree(3, 30))
        self.sync()
        tree = copy.deepcopy(self.files.tree)
        self.ok("make", (99,), "file")
        self.kernel.disk.cut([1, 1, 1])
        self.start(self.kernel.disk)
        self.assertEqual(self.files.tree, tree)
        self.assertEqual(tree_of(stream_of(self.image(), self.image()[self.E][0])), tree)


if __name__ == "__main__":
    unittest.main()
