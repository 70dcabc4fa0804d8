"""[42] to [45]: files of form A."""

import copy
import random
import unittest

from files_case import NOTHING, Busy, FilesCase, dir_of, dir_with, file_of, wild_request, wild_tree

from steadhold.afiles import NODE, MountA, tree_at
from steadhold.checks import tree_of_a
from steadhold.machines import Stack
from steadhold.owning import is_program
from steadhold.trees import new_tree


def blocks_of(part):
    """How many blocks a part takes, with all below it."""
    if "words" in part:
        return 1 + -(-len(part["words"]) // 8)
    nodes = max(1, -(-len(part["names"]) // 3))
    return nodes + sum(blocks_of(below) for below in part["names"].values())


class ACase(FilesCase):
    def mount(self, environment):
        return MountA(environment)

    def tree_of(self, image, environment):
        return tree_of_a(image, environment)

    def root(self):
        return self.kernel.disk.words(self.E)

    def check_synced(self):
        super().check_synced()
        forest = self.forest()
        self.assertEqual(len(forest) - 1, blocks_of(self.files.tree) if self.root()[0] else 0)

    def places(self, part=None, block=None, path=()):
        """For each path the list of its own blocks, nodes and data, read off the disk."""
        image = self.image()
        block = self.root()[0] if block is None else block
        found = {path: []}
        if image[block][0] == 2:
            found[path] = [block] + [data for data in image[block][2:] if data]
            return found
        while block:
            found[path].append(block)
            for at in (2, 4, 6):
                if image[block][at]:
                    found.update(self.places(None, image[block][at + 1], path + (image[block][at],)))
            block = image[block][1]
        return found


class Program(unittest.TestCase):
    def test_node(self):
        guards, other = ((0, 255, 1),), ((0, 255, 2),)
        own = tuple((guards, start, 1, "own") for start in (1, 3, 5, 7))
        self.assertEqual(NODE, own + ((other, 2, 6, 0),))
        self.assertTrue(is_program(NODE, 2))


class Nodes(ACase):
    """[42]: the words of the nodes."""

    def written(self, tree):
        self.begin()
        self.make(tree)
        self.sync()
        return self.image()

    def test_an_empty_tree(self):
        image = self.written(new_tree())
        first, kind = self.root()[:2]
        self.assertEqual(self.root(), (first, kind) + (0,) * 6)
        self.assertEqual(self.types.programs()[kind - 2], NODE)
        self.assertEqual(image[first], (1,) + (0,) * 7)
        self.assertEqual(len(self.forest()), 2)

    def test_directories(self):
        for many, nodes in ((0, 1), (1, 1), (2, 1), (3, 1), (4, 2), (6, 2), (7, 3), (9, 3), (10, 4)):
            image = self.written(dir_with(many))
            node, names, seen = self.root()[0], [], 0
            while node:
                self.assertEqual(image[node][0], 1)
                here = [name for name in image[node][2::2] if name]
                self.assertEqual(image[node][2::2], tuple(here) + (0,) * (3 - len(here)))
                for at, child in zip((2, 4, 6), image[node][3::2]):
                    self.assertEqual(image[node][at] == 0, child == 0)
                    if child:
                        self.assertEqual(image[child], (2,) + (0,) * 7)
                names.extend(here)
                seen += 1
                node = image[node][1]
                self.assertEqual(len(here) if node else 3, 3)
            self.assertEqual(names, list(range(1, many + 1)))
            self.assertEqual(seen, nodes)
            self.assertEqual(len(self.forest()), 1 + nodes + many)

    def test_names_ascend_whatever_the_order_of_making(self):
        self.begin()
        for name in (9, 2 ** 32 - 1, 4, 7, 1):
            self.ok("make", (name,), "file")
        self.sync()
        image, first = self.image(), self.root()[0]
        self.assertEqual(image[first][2::2], (1, 4, 7))
        self.assertEqual(image[image[first][1]][2::2], (9, 2 ** 32 - 1, 0))

    def test_files(self):
        for many, data in ((0, 0), (1, 1), (7, 1), (8, 1), (9, 2), (16, 2), (47, 6), (48, 6)):
            told = [100 + at for at in range(many)]
            image = self.written(dir_of(n5=file_of(*told)))
            node = image[self.root()[0]][3]
            self.assertEqual(image[node][:2], (2, many))
            blocks = [block for block in image[node][2:] if block]
            self.assertEqual(image[node][2:], tuple(blocks) + (0,) * (6 - len(blocks)))
            self.assertEqual(len(blocks), data)
            held = [word for block in blocks for word in image[block]]
            self.assertEqual(held, told + [0] * (8 * data - many))
            self.assertEqual(len(self.forest()), 3 + data)
            self.assertEqual([self.forest()[block] for block in blocks], [(node, 0)] * data)

    def test_zeros_at_the_end_of_a_file_are_words(self):
        self.written(dir_of(n5=file_of(0, 0, 0), n6=file_of(*[0] * 48)))
        self.assertEqual(tree_of_a(self.image(), self.E), dir_of(n5=file_of(0, 0, 0), n6=file_of(*[0] * 48)))

    def test_tree_at(self):
        table = {
            9: (1, 7, 3, 8, 4, 6, 5, 12), 7: (1, 0, 6, 11, 0, 0, 0, 0), 8: (2, 9, 20, 21, 0, 0, 0, 0), 6: (1,) + (0,) * 7,
            12: (2,) + (0,) * 7, 11: (2, 2, 22, 0, 0, 0, 0, 0), 20: tuple(range(1, 9)), 21: (9,) + (0,) * 7,
            22: (0,) * 8,
        }
        tree = dir_of(n3=file_of(*range(1, 10)), n4=dir_of(), n5=file_of(), n6=file_of(0, 0))
        before = dict(table)
        self.assertEqual(tree_at(table, 9), tree)
        self.assertEqual(tree_at([table.get(block) for block in range(23)], 9), tree)
        self.assertEqual(tree_at(table, 8), file_of(*range(1, 10)))
        self.assertEqual(tree_at(table, 6), dir_of())
        self.assertEqual(table, before)


class Mounting(ACase):
    def test_a_new_disk(self):
        self.begin()
        self.assertEqual(self.files.tree, new_tree())
        self.assertEqual(self.types.programs(), [NODE])
        self.assertEqual(self.kernel.request(self.E, ("words", self.E)), ("ok", NOTHING))

    def test_all_blocks_are_read_and_no_buffer_is_forgotten(self):
        self.begin()
        tree = dir_of(n1=dir_of(n2=file_of(*range(48)), n3=dir_with(5)), n4=file_of(1), n5=dir_of(), n6=file_of())
        self.make(tree)
        self.sync()
        self.start(self.kernel.disk)
        self.assertEqual(self.files.tree, tree)
        self.check_synced()
        self.assertEqual(self.types.programs(), [NODE])

    def test_requests_until_all_is_read(self):
        self.begin()
        self.make(dir_of(n1=file_of(7)))
        self.sync()
        kernel = Busy(self.kernel)
        stack = Stack(MountA(0))
        self.assertTrue(stack.step(kernel, 0))
        self.assertEqual(kernel.asked, [(("register", NODE), ("ok", 2))])
        for _ in range(5):
            stack.step(kernel, 0)
            self.assertFalse(stack.ended())
            self.assertEqual(kernel.asked[-1], (("fetch", 0), ("ok", "wait")))
        self.kernel.disk_does(0)
        self.assertEqual([stack.step(kernel, 0) for _ in range(3)], [True, True, False])
        self.assertTrue(stack.ended())
        self.assertEqual(stack.value().tree, new_tree())

    def test_a_type_that_is_there_already(self):
        self.begin()
        self.assertEqual(self.kernel.request(1, ("register", NODE)), ("ok", 2))
        other = self.run_machine(MountA(self.E))
        self.assertEqual(other.tree, new_tree())


class Asking(ACase):
    def test_requests_are_answered_at_once(self):
        self.begin()
        kernel = Busy(self.kernel)
        machine = self.files.ask(("make", (1,), "file"))
        self.assertEqual(machine.request(), ("end", ("ok", None)))
        for request, answer in (
            (("make", (1,), "dir"), ("no", "there")), (("put", (1,), 1, (5,)), ("ok", None)),
            (("get", (1,), 0, 9), ("ok", (0, 5))), (("size", (1,)), ("ok", 2)), (("list", ()), ("ok", (1,))),
            (("drop", (2,)), ("no", "path")),
        ):
            self.assertEqual(self.run_machine(self.files.ask(request), kernel), answer)
        self.assertEqual(kernel.asked, [])
        self.assertEqual(self.files.tree, dir_of(n1=file_of(0, 5)))

    def test_anything_else(self):
        self.begin()
        for request in (
            None, "sync", ("sync", 1), (), ["sync"], ("make",), ("make", (0,), "dir"), ("put", (1,), 0, ()), 3,
            ("pass",), ("sync",) * 2, ("get", (True,), 0, 1), ("shrink", (1,), 49),
        ):
            self.assertEqual(self.run_machine(self.files.ask(request)), ("no", "request"))
        self.assertEqual(self.files.tree, new_tree())


class Syncs(ACase):
    def test_without_a_change(self):
        self.begin()
        self.make(dir_of(n1=file_of(1, 2), n2=dir_of()))
        self.sync()
        image = self.image()
        kernel = Busy(self.kernel)
        self.assertEqual(self.run_machine(self.files.ask(("sync",)), kernel), ("ok", None))
        self.assertEqual(kernel.asked, [])
        self.ok("put", (1,), 0, (9,))
        self.ok("put", (1,), 0, (1,))
        self.assertEqual(self.run_machine(self.files.ask(("sync",)), kernel), ("ok", None))
        self.assertEqual((kernel.asked, self.image()), ([], image))

    def test_an_empty_tree_is_written_once(self):
        self.begin()
        self.assertEqual(self.root()[0], 0)
        self.sync()
        self.assertNotEqual(self.root()[0], 0)
        kernel = Busy(self.kernel)
        self.run_machine(self.files.ask(("sync",)), kernel)
        self.assertEqual(kernel.asked, [])
        self.start(self.kernel.disk)
        kernel = Busy(self.kernel)
        self.run_machine(self.files.ask(("sync",)), kernel)
        self.assertEqual(kernel.asked, [])

    def test_equal_parts_keep_their_blocks(self):
        self.begin()
        self.make(dir_of(
            n1=dir_of(n1=file_of(*range(20)), n2=dir_with(4), n3=file_of(5)), n2=dir_with(7), n3=file_of(*range(9)),
            n4=dir_of(n1=dir_of(n1=dir_of(n1=file_of(1)))),
        ))
        self.sync()
        before = self.places()
        self.ok("put", (1, 3), 0, (6,))
        self.sync()
        behind = self.places()
        self.assertEqual(before.keys(), behind.keys())
        changed = [(), (1,), (1, 3)]
        for path in before:
            if path in changed:
                self.assertFalse(set(before[path]) & set(behind[path]), path)
            else:
                self.assertEqual(before[path], behind[path], path)

    def test_directories_that_grow_and_shrink_by_a_node(self):
        self.begin()
        self.make(dir_with(3))
        self.sync()
        for name in (9, 8, 7, 10):
            self.ok("make", (name,), "file")
            self.sync()
        for name in (1, 10, 9, 2, 8, 3, 7):
            self.ok("drop", (name,))
            self.sync()
        self.assertEqual(len(self.forest()), 2)

    def test_parts_of_the_other_kind(self):
        self.begin()
        self.make(dir_of(n1=dir_of(n1=file_of(*range(10)), n2=dir_of()), n2=file_of(*range(48)), n3=dir_of()))
        self.sync()
        for path in ((1, 1), (1, 2), (1,), (2,), (3,)):
            self.ok("drop", path)
        self.make(dir_of(n1=file_of(1), n2=dir_of(n1=file_of(2), n2=dir_with(4)), n3=file_of()))
        self.sync()
        self.start(self.kernel.disk)
        self.assertEqual(self.files.tree, dir_of(n1=file_of(1), n2=dir_of(n1=file_of(2), n2=dir_with(4)), n3=file_of()))

    def test_an_empty_file_in_place_of_an_empty_directory(self):
        self.begin()
        self.make(dir_of(n1=dir_of()))
        self.sync()
        self.ok("drop", (1,))
        self.ok("make", (1,), "file")
        self.sync()
        self.ok("drop", (1,))
        self.ok("make", (1,), "dir")
        self.sync()

    def test_a_sync_that_is_refused(self):
        """With each number of blocks left: all are given back, what lasts stays, and a later sync is done."""
        tree = dir_of(n1=dir_with(4), n2=file_of(*range(20)), n3=file_of(1))
        more = dir_of(n5=dir_of(n1=file_of(*range(30)), n2=dir_of()))
        # The top directory has 4 names behind the change, and takes two nodes.
        needed = blocks_of(more) + 1
        for left in range(needed + 3):
            self.begin(32, (0, 0, blocks_of(tree) + left, 28 - blocks_of(tree) - left))
            self.make(tree)
            self.sync()
            image = self.image()
            self.make(more)
            kernel = Busy(self.kernel)
            answer = self.run_machine(self.files.ask(("sync",)), kernel)
            if answer == ("no", "full"):
                self.assertLess(left, needed)
                self.assertEqual(self.image(), image)
                self.assertEqual(self.kernel.blocks.reserved(self.E), [])
                self.assertEqual(len(self.kernel.blocks.charged(self.E)), blocks_of(tree))
                words = [request[0] for request, _ in kernel.asked]
                self.assertEqual(words, ["reserve"] * (left + 1) + ["unreserve"] * left)
                for path in ((5, 1), (5, 2), (5,)):
                    self.ok("drop", path)
                self.run_machine(self.files.ask(("sync",)), kernel)
                self.assertEqual(self.image(), image)
            else:
                self.assertGreaterEqual(left, needed)
                self.check_synced()

    def test_a_refused_sync_and_a_later_one(self):
        self.begin(24, (0, 0, 0, 0))
        self.make(dir_of(n1=file_of(*range(10)), n2=file_of(*range(20))))
        self.sync()
        taken = [self.kernel.request(0, ("reserve",))[1] for _ in range(5)]
        self.ok("put", (1,), 0, (77,))
        self.ok("put", (2,), 0, (78,))
        tree = tree_of_a(self.image(), self.E)
        self.assertEqual(self.ask("sync"), ("no", "full"))
        self.assertEqual(tree_of_a(self.image(), self.E), tree)
        self.assertEqual(self.ask("sync"), ("no", "full"))
        for block in taken:
            self.kernel.request(0, ("unreserve", block))
        self.ok("put", (2,), 0, (0,))
        self.sync()
        self.assertEqual(self.files.tree["names"][1]["words"][0], 77)

    def test_requests_that_are_answered_busy_are_made_again(self):
        self.begin()
        draw = random.Random(44)
        for round_number in range(6):
            self.ask("make", (round_number + 10,), "file")
            for _ in range(8):
                self.ask(*wild_request(draw, top=12))
            kernel = Busy(self.kernel, draw)
            self.assertEqual(self.run_machine(self.files.ask(("sync",)), kernel), ("ok", None))
            self.check_synced()
            self.assertIn(("no", "busy"), [answer for _, answer in kernel.asked])

    def test_order_of_a_sync(self):
        """Reserve all; fill, alter, flush and wait; end the old nodes; then the root."""
        self.begin()
        self.make(dir_of(n1=dir_of(n1=file_of(1)), n2=file_of(2)))
        self.sync()
        old = set(self.forest())
        self.ok("put", (1, 1), 0, (3,))
        kernel = Busy(self.kernel)
        self.run_machine(self.files.ask(("sync",)), kernel)
        asked = [request for request, answer in kernel.asked if answer not in (("no", "busy"), ("ok", False))]
        words = [request[0] for request in asked]
        self.assertEqual(words[:4], ["reserve"] * 4)
        self.assertNotIn("reserve", words[4:])
        new = set(self.forest()) - old
        self.assertEqual(len(new), 4)
        root = [at for at, request in enumerate(asked) if request[1:] == (self.E,) or "alter" == request[0]
                and request[1][0][0] == self.E]
        self.assertEqual(root, list(range(len(asked) - 3, len(asked))))
        self.assertEqual(words[-3:], ["alter", "flush", "lasts"])
        last_new = max(at for at, request in enumerate(asked) if request[0] == "lasts" and request[1] in new)
        for at, request in enumerate(asked[:-3]):
            if request[0] == "flush":
                self.assertIn(request[1], new)
            if at > last_new:
                self.assertEqual(request[0], "alter")
                self.assertTrue(all(block in old for block, _ in request[1]))

    def test_wild_changes(self):
        for seed in range(5):
            self.begin(64, (0, 0, 0, 0))
            draw = random.Random(seed)
            results = []
            for round_number in range(40):
                for _ in range(draw.choice([0, 1, 1, 2, 5, 12])):
                    self.ask(*wild_request(draw, names=5, top=20))
                before = self.places() if self.root()[0] else {}
                old = tree_of_a(self.image(), self.E)
                answer = self.ask("sync")
                results.append(answer)
                if answer == ("ok", None):
                    self.check_synced()
                    self.check_kept(before, old)
                else:
                    self.assertEqual(tree_of_a(self.image(), self.E), old)
                    self.assertEqual(self.kernel.blocks.reserved(self.E), [])
                if round_number % 10 == 9 and answer[0] == "ok":
                    self.start(self.kernel.disk)
                    self.check_synced()
            self.assertIn(("ok", None), results)

    def check_kept(self, before, old):
        """Parts that are equal at the same path have their old blocks; the others have new ones."""
        def part(tree, path):
            for name in path:
                tree = tree["names"].get(name) if tree and "names" in tree else None
            return tree

        behind = self.places()
        elder = {block for blocks in before.values() for block in blocks}
        for path in behind:
            if path in before and part(old, path) == part(self.files.tree, path):
                self.assertEqual(before[path], behind[path])
            else:
                self.assertFalse(elder & set(behind[path]))


class Cuts(ACase):
    def test_cuts_at_every_moment(self):
        for seed in range(4):
            draw = random.Random(seed)
            self.begin(40, (0, 0, 0, 0))
            both = 0
            for _ in range(6):
                for _ in range(draw.choice([1, 4, 8])):
                    self.ask(*wild_request(draw, names=3, top=20))
                _, seen = self.sync_with_cuts(draw)
                both += len([tree for tree in seen if tree != seen[0]]) > 0
            self.assertGreater(both, 0)

    def test_a_cut_and_a_new_mount(self):
        self.begin()
        self.make(wild_tree(3, 30))
        self.sync()
        tree = copy.deepcopy(self.files.tree)
        self.ok("make", (99,), "file")
        self.kernel.disk.cut([1, 1, 1])
        self.start(self.kernel.disk)
        self.assertEqual(self.files.tree, tree)


if __name__ == "__main__":
    unittest.main()
