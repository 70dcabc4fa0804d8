"""Promises [12] and [13]: the pages."""

import random
import unittest

from steadhold.frames import TOP, Frames
from steadhold.pages import PAGES, Pages


def shared():
    """Environment 0 holds the frames 0 and 1 with "rw"; 1 holds 0 with "r"."""
    frames = Frames(8, [2, 2, 2, 2])
    frames.take(0)
    frames.take(0)
    frames.offer(0, 0, 1, "r")
    frames.accept(1, 0, 0)
    return frames, Pages(frames)


class Entries(unittest.TestCase):
    def setUp(self):
        self.frames, self.pages = shared()

    def test_constant(self):
        self.assertEqual(PAGES, 32)

    def test_map(self):
        self.assertIs(self.pages.map(0, 0, 0, "rw"), True)
        self.assertIs(self.pages.map(0, 31, 0, "r"), True)
        self.assertEqual(self.pages.entry(0, 0), (0, "rw"))
        self.assertEqual(self.pages.entry(0, 31), (0, "r"))
        self.assertIsNone(self.pages.entry(0, 1))
        self.assertIsNone(self.pages.entry(1, 0))

    def test_not_more_than_the_book(self):
        self.assertIs(self.pages.map(1, 0, 0, "rw"), False)
        self.assertIs(self.pages.map(1, 0, 1, "r"), False)
        self.assertIs(self.pages.map(2, 0, 0, "r"), False)
        self.assertIsNone(self.pages.entry(1, 0))
        self.assertIs(self.pages.map(1, 0, 0, "r"), True)

    def test_out_of_bounds(self):
        for e, page, frame, right in (
            (0, 32, 0, "r"), (0, -1, 0, "r"), (0, -32, 0, "r"), (4, 0, 0, "r"), (-4, 0, 0, "r"), (0, 0, 8, "r"),
            (0, 0, -8, "r"), (0, 0, 0, "w"), (0, 0, 0, ""), (0, 0, 0, None), (0, True, 0, "r"), (0, 0, True, "r"),
            (0, "0", 0, "r"), (0, [0], 0, "r"), (0, 0, [0], "r"), (0, 0, 0, ["r"]), (0, 0, 3, "r"), (0, 0, 3, None),
        ):
            self.assertIs(self.pages.map(e, page, frame, right), False)
            self.assertIsNone(self.pages.entry(e, page))
            self.assertIs(self.pages.unmap(e, page), False)

    def test_a_refused_entry_leaves_the_old_one(self):
        self.pages.map(0, 3, 0, "r")
        self.assertIs(self.pages.map(0, 3, 5, "r"), False)
        self.assertEqual(self.pages.entry(0, 3), (0, "r"))

    def test_replaced(self):
        self.pages.map(0, 3, 0, "rw")
        self.assertTrue(self.pages.map(0, 3, 1, "r"))
        self.assertEqual(self.pages.entry(0, 3), (1, "r"))
        self.pages.ended(0, 0)
        self.assertEqual(self.pages.entry(0, 3), (1, "r"))

    def test_unmap(self):
        self.pages.map(0, 3, 0, "rw")
        self.assertIs(self.pages.unmap(1, 3), False)
        self.assertIs(self.pages.unmap(0, 3), True)
        self.assertIs(self.pages.unmap(0, 3), False)
        self.assertIsNone(self.pages.entry(0, 3))

    def test_ended(self):
        for page, frame, right in ((1, 0, "rw"), (2, 1, "rw"), (3, 0, "r")):
            self.pages.map(0, page, frame, right)
        self.pages.map(1, 1, 0, "r")
        self.frames.drop(0, 0)
        self.pages.ended(0, 0)
        self.assertEqual([self.pages.entry(0, page) for page in (1, 2, 3)], [None, (1, "rw"), None])
        self.assertEqual(self.pages.entry(1, 1), (0, "r"))
        self.assertIsNone(self.pages.load(0, 1, 0))
        self.assertIs(self.pages.store(0, 3, 0, 1), False)

    def test_narrowed(self):
        for page, frame, right in ((1, 0, "rw"), (2, 1, "rw"), (3, 0, "r")):
            self.pages.map(0, page, frame, right)
        self.frames.narrow(0, 0)
        self.pages.narrowed(0, 0)
        self.assertEqual([self.pages.entry(0, page) for page in (1, 2, 3)], [None, (1, "rw"), (0, "r")])
        self.assertIs(self.pages.map(0, 1, 0, "rw"), False)
        self.assertIs(self.pages.map(0, 1, 0, "r"), True)

    def test_what_falls_of_environments_and_frames_that_do_not_exist(self):
        self.pages.map(0, 1, 0, "rw")
        for e, frame in ((-4, 0), (4, 0), (0, 8), (0, -8)):
            self.pages.ended(e, frame)
            self.pages.narrowed(e, frame)
        self.assertEqual(self.pages.entry(0, 1), (0, "rw"))


class LoadsAndStores(unittest.TestCase):
    def setUp(self):
        self.frames, self.pages = shared()
        self.pages.map(0, 5, 0, "rw")
        self.pages.map(0, 6, 0, "r")
        self.pages.map(1, 7, 0, "r")

    def test_what_was_last_stored_by_any_page(self):
        self.assertEqual(self.pages.load(0, 5, 0), 0)
        self.assertIs(self.pages.store(0, 5, 0, TOP), True)
        self.assertIs(self.pages.store(0, 5, 7, 4), True)
        for e, page in ((0, 5), (0, 6), (1, 7)):
            self.assertEqual(self.pages.load(e, page, 0), TOP)
            self.assertEqual(self.pages.load(e, page, 7), 4)
        self.assertEqual(self.frames.read(0, 7), 4)
        self.frames.write(0, 7, 5)
        self.assertEqual(self.pages.load(1, 7, 7), 5)

    def test_faults(self):
        for e, page, index, word in (
            (0, 6, 0, 1), (1, 7, 0, 1), (0, 4, 0, 1), (1, 5, 0, 1), (0, 32, 0, 1), (0, -1, 0, 1), (0, -27, 0, 1),
            (4, 5, 0, 1), (-4, 5, 0, 1), (0, 5, 8, 1), (0, 5, -1, 1), (0, 5, 0, -1), (0, 5, 0, TOP + 1),
            (0, 5, 0, True), (0, 5, 0, None), (0, 5, 0, "1"), (0, 5, True, 1), (0, 5, "0", 1), (0, "5", 0, 1),
            (0, [5], 0, 1), (0, 5, [0], 1),
        ):
            self.assertIs(self.pages.store(e, page, index, word), False)
        self.assertEqual([self.frames.read(f, i) for f in range(8) for i in range(8)], [0] * 64)

    def test_faults_of_loads(self):
        for e, page, index in (
            (0, 4, 0), (0, 32, 0), (0, -1, 0), (0, -27, 0), (4, 5, 0), (-4, 5, 0), (0, 5, 8), (0, 5, -1),
            (0, 5, True), (0, 5, "0"), (0, 5, None), (0, [5], 0), (0, None, 0),
        ):
            self.assertIsNone(self.pages.load(e, page, index))


class NeverMoreThanTheBook(unittest.TestCase):
    def test_random_acts(self):
        chance = random.Random(3)
        for _ in range(60):
            frames, pages = shared()
            for _ in range(200):
                e, page, frame = chance.randrange(4), chance.randrange(6), chance.randrange(3)
                kind = chance.randrange(7)
                if kind == 0 and frames.drop(e, frame):
                    pages.ended(e, frame)
                elif kind == 1 and frames.narrow(e, frame):
                    pages.narrowed(e, frame)
                elif kind == 2:
                    frames.take(e)
                elif kind == 3:
                    other = chance.randrange(4)
                    frames.offer(e, frame, other, chance.choice(["r", "rw"]))
                    frames.accept(other, frame, e)
                elif kind >= 4:
                    right = chance.choice(["r", "rw"])
                    can = frames.right(e, frame) in (right, "rw")
                    self.assertIs(pages.map(e, page, frame, right), can)
                self.check(chance, frames, pages)

    def check(self, chance, frames, pages):
        for e in range(4):
            for page in range(6):
                entry = pages.entry(e, page)
                word = chance.randrange(TOP)
                if entry is None:
                    self.assertIsNone(pages.load(e, page, 2))
                    self.assertIs(pages.store(e, page, 2, word), False)
                    continue
                self.assertIn(frames.right(e, entry[0]), (entry[1], "rw"))
                self.assertEqual(pages.load(e, page, 2), frames.read(entry[0], 2))
                self.assertIs(pages.store(e, page, 2, word), entry[1] == "rw")
                self.assertEqual(frames.read(entry[0], 2) == word, entry[1] == "rw")


if __name__ == "__main__":
    unittest.main()
