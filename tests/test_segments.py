"""[46] to [49]: deeds, streams, images and parts."""

import copy
import random
import unittest

from files_case import dir_of, dir_with, file_of, wild_request, wild_tree

from steadhold.segments import deeds_of, image_of, parts_of, tree_of, written
from steadhold.trees import ask, new_tree

TOP = 2 ** 32 - 1


class Written(unittest.TestCase):
    def test_deeds(self):
        for deed, words in (
            (("make", (), "dir"), [1, 0]),
            (("make", (7,), "dir"), [1, 1, 7]),
            (("make", (7, TOP, 5), "file"), [2, 3, 7, TOP, 5]),
            (("put", (9,), 2, (5, 6)), [3, 1, 9, 2, 2, 5, 6]),
            (("put", (), 48, (0,)), [3, 0, 48, 1, 0]),
            (("put", (1, 2), 0, tuple(range(48))), [3, 2, 1, 2, 0, 48, *range(48)]),
            (("shrink", (9, 8), 40), [4, 2, 9, 8, 40]),
            (("shrink", (), 0), [4, 0, 0]),
            (("drop", (3,)), [5, 1, 3]),
            (("drop", ()), [5, 0]),
        ):
            self.assertEqual(written(deed), words)
            self.assertEqual(deeds_of(words), [deed])
            self.assertEqual(deeds_of([0] + words + [0, 0, 0] + words + [0]), [deed, deed])


class Deeds(unittest.TestCase):
    def test_no_deeds(self):
        for stream in ([], [0], [0] * 9):
            self.assertEqual(deeds_of(stream), [])

    def test_zeros_within_a_deed_are_no_gap(self):
        self.assertEqual(deeds_of([3, 1, 9, 0, 2, 0, 0, 0, 1, 1, 3]), [("put", (9,), 0, (0, 0)), ("make", (3,), "dir")])
        self.assertEqual(deeds_of([4, 1, 9, 0, 5, 1, 9]), [("shrink", (9,), 0), ("drop", (9,))])
        self.assertIsNone(deeds_of([1, 0, 7]))
        self.assertIsNone(deeds_of([2, 2, 7, 0]))

    def test_streams_that_end_within_a_deed(self):
        for deed in (
            ("make", (7, 8), "dir"), ("make", (7,), "file"), ("put", (9,), 2, (5, 6)), ("shrink", (9, 8), 40),
            ("drop", (3, 4)), ("drop", ()), ("put", (), 0, (1,)), ("shrink", (), 0),
        ):
            words = written(deed)
            for many in range(1, len(words)):
                self.assertIsNone(deeds_of(words[:many]), words[:many])
                self.assertIsNone(deeds_of([5, 1, 4] + words[:many]), words[:many])

    def test_numbers_of_no_deed(self):
        for number in (6, 7, 100, TOP):
            self.assertIsNone(deeds_of([number]))
            self.assertIsNone(deeds_of([number, 1, 5]))
            self.assertIsNone(deeds_of([number, 1, 5, 0, 1, 4]))
            self.assertIsNone(deeds_of([5, 1, 4, number, 1, 5, 6, 1, 4, 3, 2]))

    def test_no_requests_of_the_table(self):
        for stream in (
            [1, 1, 0], [2, 2, 5, 0], [3, 1, 0, 0, 1, 5], [4, 1, 0, 3], [5, 1, 0],
            [3, 1, 9, 0, 0], [3, 1, 9, 0, 49, *range(49)], [3, 1, 9, 49, 1, 5], [3, 1, 9, TOP, 1, 5],
            [4, 1, 9, 49], [4, 1, 9, TOP], [5, TOP, 1], [3, 1, 9, 0, TOP, 1],
        ):
            self.assertIsNone(deeds_of(stream), stream)
            self.assertIsNone(tree_of(stream), stream)

    def test_what_is_no_word(self):
        for wrong in (-1, 2 ** 32, True, False, None, "1"):
            for at in range(7):
                stream = [3, 1, 9, 2, 2, 5, 6]
                stream[at] = wrong
                self.assertIsNone(deeds_of(stream), stream)
            self.assertIsNone(deeds_of([wrong]))
            self.assertIsNone(deeds_of([5, 1, 4, wrong]))

    def test_nothing_is_changed(self):
        stream = [3, 1, 9, 2, 2, 5, 6, 0]
        deeds_of(stream)
        tree_of(stream)
        parts_of(stream)
        self.assertEqual(stream, [3, 1, 9, 2, 2, 5, 6, 0])

    def test_wild_deeds(self):
        draw = random.Random(46)
        for _ in range(300):
            deeds = [wild_request(draw) for _ in range(draw.randrange(6))]
            stream = []
            for deed in deeds:
                stream += [0] * draw.choice([0, 0, 1, 3]) + written(deed)
            self.assertEqual(deeds_of(stream), deeds)


class Trees(unittest.TestCase):
    def test_tree_of(self):
        self.assertEqual(tree_of([]), new_tree())
        stream = [1, 1, 7, 0, 2, 2, 7, 8, 3, 2, 7, 8, 1, 1, 5, 2, 1, 9, 5, 1, 9, 4, 2, 7, 8, 1]
        self.assertEqual(tree_of(stream), dir_of(n7=dir_of(n8=file_of(0))))

    def test_deeds_that_are_refused(self):
        for stream in ([1, 0], [2, 0], [5, 0], [1, 1, 7, 1, 1, 7], [1, 2, 7, 8], [5, 1, 4], [3, 0, 0, 1, 4],
                       [2, 1, 7, 3, 1, 7, 48, 1, 4], [4, 0, 3], [1, 1, 7, 2, 2, 7, 8, 5, 1, 7]):
            self.assertIsNotNone(deeds_of(stream))
            self.assertIsNone(tree_of(stream), stream)

    def test_broken(self):
        self.assertIsNone(tree_of([1, 1, 7, 9]))


class Images(unittest.TestCase):
    def test_image(self):
        self.assertEqual(image_of(new_tree()), [])
        tree = dir_of(n9=file_of(), n2=dir_of(n5=file_of(6, 0), n4=dir_of()), n3=file_of(0))
        self.assertEqual(image_of(tree), [
            1, 1, 2, 1, 2, 2, 4, 2, 2, 2, 5, 3, 2, 2, 5, 0, 2, 6, 0, 2, 1, 3, 3, 1, 3, 0, 1, 0, 2, 1, 9,
        ])
        self.assertEqual(tree_of(image_of(tree)), tree)

    def test_files_of_all_sizes(self):
        for many in (0, 1, 47, 48):
            tree = dir_of(n1=file_of(*range(many)))
            put = [3, 1, 1, 0, many, *range(many)] if many else []
            self.assertEqual(image_of(tree), [2, 1, 1] + put)

    def test_wild_trees(self):
        for seed in range(60):
            tree = wild_tree(seed, seed)
            before = copy.deepcopy(tree)
            self.assertEqual(tree_of(image_of(tree)), tree)
            self.assertEqual(tree, before)

    def test_order_of_names_does_not_depend_on_the_order_of_making(self):
        one, other = new_tree(), new_tree()
        for name in (1, 2, 3):
            ask(one, ("make", (name,), "dir"))
            ask(other, ("make", (4 - name,), "dir"))
        self.assertEqual(image_of(one), image_of(other))

    def test_a_deep_tree(self):
        tree, path = new_tree(), ()
        for _ in range(1500):
            path += (1,)
            ask(tree, ("make", path, "dir"))
        self.assertEqual(len(image_of(tree)), sum(2 + many for many in range(1, 1501)))


class Parts(unittest.TestCase):
    def test_parts(self):
        self.assertEqual(parts_of([]), [])
        self.assertEqual(parts_of([5]), [(5, 0, 0, 0, 0, 0, 0)])
        self.assertEqual(parts_of(list(range(1, 8))), [(1, 2, 3, 4, 5, 6, 7)])
        self.assertEqual(parts_of(list(range(1, 9))), [(1, 2, 3, 4, 5, 6, 7), (8, 0, 0, 0, 0, 0, 0)])
        self.assertEqual(len(parts_of([1] * 14)), 2)
        self.assertEqual(parts_of([0]), [(0,) * 7])
        self.assertEqual(parts_of(written(("put", (9,), 2, (5, 6)))), [(3, 1, 9, 2, 2, 5, 6)])

    def test_streams_behind_one_another(self):
        """The zeros at the end of a last part do not disturb the next stream."""
        tree = dir_with(5)
        stream = image_of(tree)
        chained = [word for part in parts_of(stream) + parts_of(written(("drop", (4,)))) for word in part]
        del tree["names"][4]
        self.assertEqual(tree_of(chained), tree)


if __name__ == "__main__":
    unittest.main()
