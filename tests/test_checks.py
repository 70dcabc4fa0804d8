"""[53] and [54]: the checker, and the trees that are read from the words alone."""

import copy
import random
import unittest

from blocks_case import NOTHING, new_types, words
from files_case import FilesCase, dir_of, file_of, wild_request

from steadhold.afiles import NODE, MountA
from steadhold.bfiles import SEGMENT, MountB
from steadhold.checks import forests, tree_of_a, tree_of_b, unreached
from steadhold.kernel import Kernel
from steadhold.disk import Disk
from steadhold.owning import Types
from steadhold.trees import new_tree


def image_with(table, many=24):
    image = [NOTHING] * many
    for block, told in table.items():
        image[block] = told
    return image


class Faults(unittest.TestCase):
    """Type 2 owns the blocks of words 0 and 1 as its own, type 3 word 0 as data and word 1 as type 2."""

    def found(self, table):
        image, types = image_with(table), new_types()
        before = copy.deepcopy((image, types.programs(), types.count()))
        result = forests(image, types)
        self.assertEqual(before, (image, types.programs(), types.count()))
        return result

    def test_no_fault(self):
        roots = [{e: (None, 1)} for e in range(4)]
        self.assertEqual(self.found({}), ("ok", roots))
        told = {0: words(9, 3), 9: words(5, 7), 7: words(6, 11), 2: words(20, 0), 20: words(8, 8), 13: words(1, 2)}
        roots[0] = {0: (None, 1), 9: (0, 3), 5: (9, 0), 7: (9, 2), 6: (7, 2), 11: (7, 2)}
        roots[2] = {2: (None, 1), 20: (2, 0)}
        self.assertEqual(self.found(told), ("ok", roots))
        self.assertEqual(unreached(image_with(told), new_types()), [4, 8, 10, *range(12, 20), 21, 22, 23])

    def test_twice_within_one_forest(self):
        self.assertEqual(self.found({0: words(9, 2), 9: words(10, 11), 10: words(11)}), ("twice", 11))
        self.assertEqual(self.found({0: words(9, 2), 9: words(10, 11), 10: words(12), 11: words(12)}), ("twice", 12))
        self.assertEqual(self.found({0: words(9, 2), 9: words(9)}), ("twice", 9))
        self.assertEqual(self.found({0: words(9, 2), 9: words(10), 10: words(9)}), ("twice", 9))

    def test_twice_between_two(self):
        self.assertEqual(self.found({0: words(9, 2), 9: words(10), 1: words(10, 0)}), ("twice", 10))
        self.assertEqual(self.found({1: words(10, 0), 3: words(9, 2), 9: words(0, 10)}), ("twice", 10))
        self.assertEqual(self.found({2: words(10, 0), 3: words(10, 2)}), ("twice", 10))

    def test_ill_in_a_root(self):
        for told in ((3, 2), (24, 2), (9, 1), (9, 4), (2 ** 32 - 1, 0)):
            self.assertEqual(self.found({1: words(*told)}), ("ill", 1))

    def test_ill_further_on(self):
        self.assertEqual(self.found({0: words(9, 2), 9: words(10), 10: words(0, 3)}), ("ill", 10))
        self.assertEqual(self.found({0: words(9, 3), 9: words(10, 11), 10: words(1, 1), 11: words(24)}), ("ill", 11))
        self.assertEqual(self.found({0: words(9, 2), 9: words(10, 10)}), ("ill", 9))

    def test_the_first_fault(self):
        """Breadth first, in the order in which the blocks are owned, and the environments in turn."""
        table = {0: words(9, 2), 9: words(10, 11), 10: words(12), 11: words(1), 12: words(2)}
        self.assertEqual(self.found(table), ("ill", 11))
        table = {0: words(9, 2), 9: words(11, 10), 10: words(1), 11: words(2)}
        self.assertEqual(self.found(table), ("ill", 11))
        table = {0: words(9, 2), 9: words(10, 11), 10: words(11), 11: words(13), 13: words(1)}
        self.assertEqual(self.found(table), ("twice", 11))
        table = {0: words(9, 2), 9: words(10, 11), 10: words(12, 9), 11: words(1), 12: NOTHING}
        self.assertEqual(self.found(table), ("ill", 11))
        table = {3: words(1, 1), 1: words(9, 2), 9: words(9)}
        self.assertEqual(self.found(table), ("twice", 9))
        table = {0: words(9, 0), 1: words(9, 2), 9: words(1)}
        self.assertEqual(self.found(table), ("twice", 9))
        table = {0: words(9, 0), 1: words(10, 1), 2: words(9, 0)}
        self.assertEqual(self.found(table), ("ill", 1))

    def test_unreached(self):
        self.assertEqual(unreached(image_with({}), new_types()), list(range(4, 24)))
        image, types = image_with({3: words(23, 2), 23: words(4)}), new_types()
        before = list(image)
        self.assertEqual(unreached(image, types), list(range(5, 23)))
        self.assertEqual(image, before)


class Trees(unittest.TestCase):
    def test_roots_that_lead_to_nothing(self):
        image = image_with({1: words(0, 7)})
        for e in range(4):
            self.assertEqual(tree_of_a(image, e), new_tree())
            self.assertEqual(tree_of_b(image, e), new_tree())
        tree_of_a(image, 0)["names"][1] = {}
        self.assertEqual(tree_of_a(image, 0), new_tree())

    def test_words_alone(self):
        image = image_with({
            2: words(9, 2), 9: (1, 0, 5, 10, 6, 11, 0, 0), 10: (2, 1, 12, 0, 0, 0, 0, 0), 11: words(1), 12: words(77),
            3: words(14, 3), 14: (15, 2, 1, 5, 3, 1, 5, 0), 15: (0, 2, 8, 9, 0, 0, 0, 0),
        })
        before = list(image)
        self.assertEqual(tree_of_a(image, 2), dir_of(n5=file_of(77), n6=dir_of()))
        self.assertEqual(tree_of_b(image, 3), dir_of(n5=file_of(8, 9)))
        self.assertEqual(image, before)

    def test_both_libraries_side_by_side(self):
        draw = random.Random(54)
        types, disk = Types(64), Disk(64)
        kernel = Kernel([0, 1, 2, 3] * 2, 16, [4] * 4, disk, [15] * 4, types, [None] * 4)
        runner = FilesCase()
        runner.kernel = kernel
        files = {}
        for e, mount in ((0, MountA), (1, MountB), (2, MountB), (3, MountA)):
            runner.E = e
            files[e] = runner.run_machine(mount(e))
        self.assertEqual(types.programs(), [NODE, SEGMENT])
        done = 0
        for _ in range(200):
            runner.E = e = draw.randrange(4)
            for _ in range(draw.randrange(4)):
                runner.run_machine(files[e].ask(wild_request(draw, names=3, top=9)))
            if runner.run_machine(files[e].ask(("sync",))) == ("ok", None):
                done += 1
                tree_of = tree_of_a if e in (0, 3) else tree_of_b
                self.assertEqual(tree_of(disk.image(), e), files[e].tree)
            found = forests(disk.image(), types)
            self.assertEqual(found, ("ok", [kernel.blocks.lasting_forest(other) for other in range(4)]))
            self.assertEqual(unreached(disk.image(), types), kernel.blocks.free())
        self.assertGreater(done, 50)


if __name__ == "__main__":
    unittest.main()
