"""Promises [21] to [23]: the disk."""

import unittest

from steadhold.disk import Disk, disk_from, is_words
from steadhold.errors import NotValid

TOP = 2 ** 32 - 1
ZEROS = (0,) * 8


def row(*words):
    return words + (0,) * (8 - len(words))


def state(disk):
    return disk.image(), disk.queue()


class Words(unittest.TestCase):
    def test_is_words(self):
        for value in (ZEROS, (TOP,) * 8, (1, 2, 3, 4, 5, 6, 7, 8)):
            self.assertIs(is_words(value), True)

    def test_no_words(self):
        for value in (
            [0] * 8, (0,) * 7, (0,) * 9, (), None, 0, "00000000", b"00000000", row(-1), row(TOP + 1), row(True),
            row(0, False), row("1"), row(None), row(1.0), row((0,)),
        ):
            self.assertIs(is_words(value), False)


class Making(unittest.TestCase):
    def test_blocks(self):
        for blocks in (24, 25, 64):
            disk = Disk(blocks)
            self.assertEqual(disk.blocks, blocks)
            self.assertEqual(disk.image(), [ZEROS] * blocks)
            self.assertEqual(disk.queue(), [])
            self.assertEqual(disk.words(blocks - 1), ZEROS)

    def test_refused(self):
        for blocks in (23, 65, 0, -24, True, None, "24", 24.0):
            with self.assertRaises(NotValid):
                Disk(blocks)

    def test_from_an_image(self):
        for blocks in (24, 64):
            image = [row(block, 7) for block in range(blocks)]
            disk = disk_from(image)
            self.assertEqual((disk.blocks, disk.image(), disk.queue()), (blocks, image, []))
            disk.add(("write", 3, row(1), 0))
            disk.do(0)
            self.assertEqual(image, [row(block, 7) for block in range(blocks)])
            image[4] = ZEROS
            self.assertEqual(disk.words(4), row(4, 7))

    def test_no_image(self):
        for image in (
            None, 24, "image", tuple([ZEROS] * 24), [ZEROS] * 23, [ZEROS] * 65, [], [list(ZEROS)] * 24,
            [ZEROS] * 23 + [row(-1)], [ZEROS] * 23 + [(0,) * 7], [row(True)] + [ZEROS] * 23, [None] * 24,
            {block: ZEROS for block in range(24)},
        ):
            with self.assertRaises(NotValid):
                disk_from(image)


class Queue(unittest.TestCase):
    def setUp(self):
        self.disk = Disk(24)

    def test_operations_wait(self):
        self.disk.add(("write", 5, row(7), 1))
        self.disk.add(("read", 6, 2))
        self.assertEqual(self.disk.queue(), [("write", 5, row(7), 1), ("read", 6, 2)])
        self.assertEqual([self.disk.waits(block) for block in (4, 5, 6)], [False, True, True])
        self.assertEqual(self.disk.words(5), ZEROS)

    def test_one_of_a_block(self):
        for first in (("write", 5, row(7), 1), ("read", 5, 1)):
            disk = Disk(24)
            disk.add(first)
            disk.add(("read", 6, 1))
            before = state(disk)
            for second in (("write", 5, row(8), 2), ("read", 5, 2), first):
                with self.assertRaises(NotValid):
                    disk.add(second)
                self.assertEqual(state(disk), before)
            disk.do(0)
            disk.add(("read", 5, 2))
            self.assertEqual(disk.queue(), [("read", 6, 1), ("read", 5, 2)])

    def test_no_operations(self):
        for operation in (
            None, "read", (), ("read",), ("read", 5), ["read", 5, 0], ("read", 24, 0), ("read", -1, 0),
            ("read", True, 0), ("read", 5, 4), ("read", 5, row(1), 0), ("write", 5, 0), ("write", 5, row(-1), 0),
            ("write", 5, [0] * 8, 0), ("write", 24, row(1), 0), ("write", 5, row(1), -1), ("cut", 5, 0),
            ("write", 5, row(1), 0, 0),
        ):
            with self.assertRaises(NotValid):
                self.disk.add(operation)
        self.assertEqual(state(self.disk), ([ZEROS] * 24, []))

    def test_do_a_write(self):
        self.disk.add(("write", 5, row(7), 1))
        self.assertEqual(self.disk.do(0), (("write", 5, row(7), 1), row(7)))
        self.assertEqual((self.disk.words(5), self.disk.queue(), self.disk.waits(5)), (row(7), [], False))
        self.assertEqual(self.disk.image(), [ZEROS] * 5 + [row(7)] + [ZEROS] * 18)

    def test_do_a_read(self):
        self.disk.add(("write", 5, row(7), 1))
        self.disk.do(0)
        self.disk.add(("read", 5, 3))
        self.assertEqual(self.disk.do(0), (("read", 5, 3), row(7)))
        self.assertEqual((self.disk.words(5), self.disk.queue()), (row(7), []))

    def test_any_order(self):
        for index, place in ((0, 0), (1, 1), (2, 2), (3, 0), (4, 1), (-1, 2), (-3, 0), (3 * 10 ** 30 + 2, 2)):
            disk = Disk(24)
            operations = [("write", block, row(block), 0) for block in (9, 7, 8)]
            for operation in operations:
                disk.add(operation)
            done = operations.pop(place)
            self.assertEqual(disk.do(index), (done, done[2]))
            self.assertEqual(disk.queue(), operations)

    def test_do_with_none_waiting(self):
        for index in (0, 1, -1, 10 ** 30):
            self.assertIsNone(self.disk.do(index))

    def test_returned_lists_are_the_callers(self):
        self.disk.add(("read", 5, 0))
        queue, image = self.disk.queue(), self.disk.image()
        self.disk.add(("write", 6, row(1), 0))
        self.disk.do(1)
        self.assertEqual((queue, image), ([("read", 5, 0)], [ZEROS] * 24))
        queue.append(1)
        image[0] = row(1)
        self.assertEqual((self.disk.queue(), self.disk.words(0)), ([("read", 5, 0)], ZEROS))


class Cut(unittest.TestCase):
    def after(self, choices):
        disk = Disk(24)
        for operation in (
            ("write", 10, row(10), 0), ("read", 11, 1), ("write", 12, row(12), 2), ("write", 13, row(13), 3),
        ):
            disk.add(operation)
        kept = list(choices)
        disk.cut(choices)
        self.assertEqual(choices, kept)
        self.assertEqual(disk.queue(), [])
        self.assertFalse(disk.waits(10))
        return [block for block in range(24) if disk.words(block) != ZEROS]

    def test_choices(self):
        self.assertEqual(self.after([1, 1, 1, 1]), [10, 12, 13])
        self.assertEqual(self.after([0, 0, 0, 0]), [])
        self.assertEqual(self.after([0, 1, 0, 0]), [])
        self.assertEqual(self.after([0, 0, 1, 0]), [12])
        self.assertEqual(self.after([1, 0, 0, 1]), [10, 13])

    def test_fewer_and_more(self):
        self.assertEqual(self.after([]), [])
        self.assertEqual(self.after([1]), [10])
        self.assertEqual(self.after([0, 1, 1]), [12])
        self.assertEqual(self.after([0, 0, 0, 1, 1, 1, 1]), [13])

    def test_negative_and_great(self):
        self.assertEqual(self.after([-1, -1, -2, -3]), [10, 13])
        self.assertEqual(self.after([2 ** 40 + 1, 1, 2 ** 40, 3]), [10, 13])

    def test_what_was_done_lasts(self):
        disk = Disk(24)
        disk.add(("write", 5, row(1), 0))
        disk.do(0)
        disk.add(("write", 5, row(2), 0))
        disk.cut([])
        self.assertEqual(disk.words(5), row(1))
        self.assertIsNone(disk.do(0))
        disk.cut([1, 1])
        self.assertEqual(disk.words(5), row(1))
        disk.add(("write", 5, row(3), 0))
        self.assertEqual(disk.do(7), (("write", 5, row(3), 0), row(3)))


if __name__ == "__main__":
    unittest.main()
