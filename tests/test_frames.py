"""Promises [6] to [11]: the frames."""

import random
import unittest

from steadhold.errors import NotValid
from steadhold.frames import PATIENCE, TOP, WORDS, Frames, is_word

NO_NUMBERS = (True, False, None, "1", 1.0, (1,), [1], b"1")


def shortfall(frames):
    return sum(max(0, frames.share(e) - frames.charge(e)) for e in range(4))


def book(frames):
    """All that a caller can see of the book."""
    return (
        [frames.holdings(e) for e in range(4)],
        [[frames.right(e, frame) for frame in range(8)] for e in range(4)],
        frames.left(),
        frames.free(),
        [frames.asked(e) for e in range(4)],
        [frames.taken(e) for e in range(4)],
    )


class Words(unittest.TestCase):
    def test_constants(self):
        self.assertEqual((WORDS, TOP, PATIENCE), (8, 4294967295, 2))

    def test_is_word(self):
        for value in (0, 1, 4294967295):
            self.assertIs(is_word(value), True)
        for value in (-1, 4294967296) + NO_NUMBERS:
            self.assertIs(is_word(value), False)

    def test_read_and_write(self):
        frames = Frames(8, [0, 0, 0, 0])
        frames.write(7, 0, TOP)
        frames.write(7, 7, 5)
        self.assertEqual([frames.read(7, index) for index in range(8)], [TOP, 0, 0, 0, 0, 0, 0, 5])
        self.assertEqual([frames.read(6, index) for index in range(8)], [0] * 8)

    def test_read_and_write_out_of_bounds(self):
        frames = Frames(8, [0, 0, 0, 0])
        for frame, index in ((8, 0), (-1, 0), (0, 8), (0, -1)):
            with self.assertRaises(NotValid):
                frames.read(frame, index)
            with self.assertRaises(NotValid):
                frames.write(frame, index, 1)
        for word in (-1, TOP + 1) + NO_NUMBERS:
            with self.assertRaises(NotValid):
                frames.write(0, 0, word)
        self.assertEqual([frames.read(f, i) for f in range(8) for i in range(8)], [0] * 64)


class Making(unittest.TestCase):
    def test_refused(self):
        for many, shares in (
            (8, [3, 3, 3, 0]), (8, [0, 0, 0, 9]), (64, [65, 0, 0, 0]), (7, [0] * 4), (65, [0] * 4),
            (8, [-1, 0, 0, 0]), (8, [9, -1, 0, 0]), (8, [0] * 3), (8, [0] * 5), (8, [True, 0, 0, 0]),
            (8, None), (True, [0] * 4), ("8", [0] * 4), (8, ["1", 0, 0, 0]),
        ):
            with self.assertRaises(NotValid):
                Frames(many, shares)

    def test_shares_that_are_all_frames(self):
        frames = Frames(8, [2, 2, 2, 2])
        self.assertEqual([frames.share(e) for e in range(4)], [2, 2, 2, 2])
        for e in (3, 0, 2, 1):
            self.assertIsNotNone(frames.take(e))
            self.assertIsNotNone(frames.take(e))
            self.assertIsNone(frames.take(e))
        self.assertEqual((frames.left(), frames.free()), (0, []))

    def test_shares_are_not_changed_and_not_kept(self):
        shares = [1, 2, 0, 0]
        frames = Frames(64, shares)
        frames.take(0)
        self.assertEqual(shares, [1, 2, 0, 0])
        shares[0] = 9
        self.assertEqual(frames.share(0), 1)

    def test_at_first(self):
        frames = Frames(9, [1, 2, 0, 0])
        self.assertEqual(frames.free(), list(range(9)))
        self.assertEqual(frames.left(), 9)
        self.assertEqual([frames.holdings(e) for e in range(4)], [[]] * 4)
        self.assertEqual([frames.charge(e) for e in range(4)], [0] * 4)


class Taking(unittest.TestCase):
    def test_least_free_frame(self):
        frames = Frames(8, [2, 2, 2, 2])
        self.assertEqual([frames.take(0), frames.take(1), frames.take(0)], [0, 1, 2])
        self.assertTrue(frames.drop(1, 1))
        self.assertEqual(frames.take(2), 1)
        self.assertEqual(frames.take(1), 3)
        self.assertEqual(frames.right(2, 1), "rw")
        self.assertEqual(frames.holdings(0), [0, 2])

    def test_zeros(self):
        frames = Frames(8, [2, 2, 2, 2])
        frames.take(0)
        frames.write(0, 0, 7)
        frames.write(0, 7, 9)
        frames.drop(0, 0)
        frames.write(0, 3, 1)
        self.assertEqual(frames.take(1), 0)
        self.assertEqual([frames.read(0, index) for index in range(8)], [0] * 8)

    def test_beyond_the_share_only_what_nobody_may_claim(self):
        frames = Frames(8, [0, 3, 3, 0])
        self.assertEqual([frames.take(0), frames.take(3)], [0, 1])
        self.assertIsNone(frames.take(0))
        self.assertIsNone(frames.take(3))
        self.assertEqual([frames.take(1) for _ in range(4)], [2, 3, 4, None])
        self.assertEqual([frames.take(2) for _ in range(4)], [5, 6, 7, None])

    def test_shares_of_zero(self):
        frames = Frames(8, [0, 0, 0, 0])
        self.assertEqual([frames.take(0) for _ in range(9)], list(range(8)) + [None])
        self.assertIsNone(frames.take(1))

    def test_a_shared_frame_is_charged_to_each(self):
        frames = Frames(8, [0, 0, 0, 0])
        self.assertEqual(frames.take(0), 0)
        for e in (1, 2, 3):
            self.assertTrue(frames.offer(0, 0, e, "r"))
            self.assertTrue(frames.accept(e, 0, 0))
        self.assertEqual([frames.charge(e) for e in range(4)], [1, 1, 1, 1])
        self.assertEqual(frames.left(), 4)
        self.assertEqual(len(frames.free()), 7)
        self.assertEqual([frames.take(0) for _ in range(5)], [1, 2, 3, 4, None])
        self.assertEqual(len(frames.free()), 3)

    def test_environments_that_do_not_exist(self):
        frames = Frames(8, [1, 1, 1, 1])
        for e in (4, -1, 99, "0", True):
            self.assertIsNone(frames.take(e))
            self.assertEqual(frames.holdings(e), [])
            self.assertEqual(frames.charge(e), 0)
            self.assertIsNone(frames.right(e, 0))
            self.assertEqual((frames.share(e), frames.asked(e), frames.taken(e)), (0, 0, []))
        self.assertEqual(frames.free(), list(range(8)))

    def test_returned_lists_are_the_callers(self):
        frames = Frames(8, [2, 2, 2, 2])
        frames.take(0)
        held, free, taken = frames.holdings(0), frames.free(), frames.taken(0)
        frames.take(0)
        frames.drop(0, 0)
        self.assertEqual((held, free, taken), ([0], [1, 2, 3, 4, 5, 6, 7], []))
        held.append(5)
        taken.append(5)
        self.assertEqual((frames.holdings(0), frames.taken(0)), ([1], []))


class Offering(unittest.TestCase):
    def setUp(self):
        self.frames = Frames(8, [2, 2, 2, 2])
        self.frames.take(0)

    def refused(self, done):
        before = book(self.frames)
        self.assertIs(done, False)
        self.assertEqual(book(self.frames), before)

    def test_rw_and_r(self):
        self.assertIs(self.frames.offer(0, 0, 1, "rw"), True)
        self.assertIs(self.frames.offer(0, 0, 2, "r"), True)
        self.assertIs(self.frames.accept(1, 0, 0), True)
        self.assertIs(self.frames.accept(2, 0, 0), True)
        self.assertEqual([self.frames.right(e, 0) for e in range(4)], ["rw", "rw", "r", None])
        self.refused(self.frames.offer(2, 0, 3, "rw"))
        self.assertTrue(self.frames.offer(2, 0, 3, "r"))
        self.refused(self.frames.accept(3, 0, 0))
        self.refused(self.frames.accept(3, 0, 1))
        self.assertTrue(self.frames.accept(3, 0, 2))
        self.assertEqual(self.frames.right(3, 0), "r")

    def test_out_of_bounds(self):
        for e, frame, other, right in (
            (0, 0, 0, "r"), (0, 1, 1, "r"), (1, 0, 2, "r"), (0, 8, 1, "r"), (0, -1, 1, "r"), (0, -8, 1, "r"),
            (4, 0, 1, "r"), (-4, 0, 1, "r"), (0, 0, 4, "r"), (0, 0, -1, "r"), (0, 0, 1, "w"), (0, 0, 1, ""),
            (0, 0, 1, "R"), (0, 0, 1, "rwx"), (0, 0, 1, 1), (0, "0", 1, "r"), ("0", 0, 1, "r"), (0, 0, "1", "r"),
            (0, 0, 1, None), (0, 0, True, "r"), (0, False, 1, "r"),
        ):
            self.refused(self.frames.offer(e, frame, other, right))
        for e in range(1, 4):
            self.refused(self.frames.accept(e, 0, 0))

    def test_accept_out_of_bounds(self):
        self.frames.offer(0, 0, 1, "r")
        for e, frame, owner in (
            (0, 0, 0), (1, 1, 0), (1, 0, 1), (1, 0, 2), (1, 0, 4), (1, 0, -4), (4, 0, 0), (-3, 0, 0), (2, 0, 0),
            (1, 8, 0), (1, -8, 0), ("1", 0, 0), (1, "0", 0), (1, 0, "0"), (True, 0, 0), (1, False, 0),
            (None, 0, 0), (1, None, 0), (1, [0], 0), ([1], 0, 0), (1, 0, [0]),
        ):
            self.refused(self.frames.accept(e, frame, owner))
        self.assertTrue(self.frames.accept(1, 0, 0))

    def test_an_offer_is_accepted_once(self):
        self.frames.offer(0, 0, 1, "r")
        self.assertTrue(self.frames.accept(1, 0, 0))
        self.refused(self.frames.accept(1, 0, 0))
        self.frames.drop(1, 0)
        self.refused(self.frames.accept(1, 0, 0))

    def test_owner_has_dropped(self):
        self.frames.offer(0, 0, 1, "r")
        self.frames.drop(0, 0)
        self.refused(self.frames.accept(1, 0, 0))
        self.assertEqual(self.frames.take(0), 0)
        self.refused(self.frames.accept(1, 0, 0))

    def test_owner_has_dropped_what_another_still_holds(self):
        self.frames.offer(0, 0, 1, "rw")
        self.frames.accept(1, 0, 0)
        self.frames.offer(0, 0, 2, "r")
        self.frames.offer(1, 0, 3, "r")
        self.frames.drop(0, 0)
        self.refused(self.frames.accept(2, 0, 0))
        self.frames.offer(1, 0, 0, "r")
        self.assertTrue(self.frames.accept(0, 0, 1))
        self.refused(self.frames.accept(2, 0, 0))
        self.assertTrue(self.frames.accept(3, 0, 1))

    def test_owner_has_narrowed(self):
        self.frames.offer(0, 0, 1, "rw")
        self.frames.offer(0, 0, 2, "r")
        self.frames.narrow(0, 0)
        self.refused(self.frames.accept(1, 0, 0))
        self.assertTrue(self.frames.accept(2, 0, 0))
        self.refused(self.frames.offer(0, 0, 1, "rw"))
        self.assertTrue(self.frames.offer(0, 0, 1, "r"))
        self.assertTrue(self.frames.accept(1, 0, 0))

    def test_another_right(self):
        self.frames.offer(0, 0, 1, "rw")
        self.frames.offer(0, 0, 1, "r")
        self.assertTrue(self.frames.accept(1, 0, 0))
        self.assertEqual(self.frames.right(1, 0), "r")
        self.frames.offer(0, 0, 2, "r")
        self.frames.offer(0, 0, 2, "rw")
        self.assertTrue(self.frames.accept(2, 0, 0))
        self.assertEqual(self.frames.right(2, 0), "rw")

    def test_a_refused_offer_leaves_the_old_one(self):
        self.frames.offer(0, 0, 1, "r")
        self.refused(self.frames.offer(0, 0, 1, "x"))
        self.assertTrue(self.frames.accept(1, 0, 0))

    def test_to_one_who_holds_it_already(self):
        self.frames.offer(0, 0, 1, "r")
        self.frames.accept(1, 0, 0)
        self.assertTrue(self.frames.offer(0, 0, 1, "rw"))
        self.refused(self.frames.accept(1, 0, 0))
        self.assertEqual(self.frames.right(1, 0), "r")
        self.frames.drop(1, 0)
        self.assertTrue(self.frames.accept(1, 0, 0))
        self.assertEqual(self.frames.right(1, 0), "rw")

    def test_who_may_not_hold_one_more(self):
        frames = self.frames
        frames.offer(0, 0, 1, "r")
        self.assertEqual([frames.take(1), frames.take(1)], [1, 2])
        self.refused(frames.accept(1, 0, 0))
        frames.drop(1, 2)
        self.assertTrue(frames.accept(1, 0, 0))
        self.assertEqual(frames.holdings(1), [1, 0])


class Ending(unittest.TestCase):
    def test_drop(self):
        frames = Frames(8, [2, 2, 2, 2])
        frames.take(0)
        frames.offer(0, 0, 1, "r")
        frames.accept(1, 0, 0)
        self.assertIs(frames.drop(0, 0), True)
        self.assertIs(frames.drop(0, 0), False)
        self.assertEqual((frames.right(0, 0), frames.right(1, 0)), (None, "r"))
        self.assertNotIn(0, frames.free())
        self.assertIs(frames.drop(1, 0), True)
        self.assertIn(0, frames.free())

    def test_what_is_not_held(self):
        frames = Frames(8, [2, 2, 2, 2])
        frames.take(0)
        before = book(frames)
        for e, frame in (
            (0, 1), (1, 0), (0, 8), (0, -1), (0, -8), (4, 0), (-4, 0), ("0", 0), (0, "0"), (0, False), (0, [0]),
        ):
            self.assertIs(frames.drop(e, frame), False)
            self.assertIs(frames.narrow(e, frame), False)
        self.assertEqual(book(frames), before)

    def test_narrow(self):
        frames = Frames(8, [2, 2, 2, 2])
        frames.take(0)
        frames.take(0)
        self.assertIs(frames.narrow(0, 0), True)
        self.assertEqual(frames.right(0, 0), "r")
        self.assertIs(frames.narrow(0, 0), False)
        self.assertEqual(frames.right(0, 0), "r")
        self.assertEqual(frames.holdings(0), [0, 1])

    def test_a_new_holding_is_the_newest(self):
        frames = Frames(8, [3, 2, 2, 1])
        self.assertEqual([frames.take(0) for _ in range(3)], [0, 1, 2])
        frames.drop(0, 0)
        frames.take(0)
        self.assertEqual(frames.holdings(0), [1, 2, 0])


class AskingBack(unittest.TestCase):
    def setUp(self):
        self.frames = Frames(10, [2, 0, 0, 0])
        for _ in range(6):
            self.frames.take(0)

    def test_second_end_and_not_the_first(self):
        frames = self.frames
        frames.ask_back(0, 2)
        self.assertEqual(frames.asked(0), 2)
        self.assertEqual(frames.slot_ended(0), [])
        self.assertEqual(frames.asked(0), 2)
        self.assertEqual(frames.charge(0), 6)
        self.assertEqual(frames.slot_ended(0), [5, 4])
        self.assertEqual((frames.asked(0), frames.taken(0), frames.holdings(0)), (0, [5, 4], [0, 1, 2, 3]))
        self.assertEqual(frames.free(), [4, 5, 6, 7, 8, 9])
        self.assertEqual([frames.slot_ended(0), frames.slot_ended(0)], [[], []])

    def test_what_was_dropped_counts(self):
        frames = self.frames
        frames.drop(0, 5)
        frames.ask_back(0, 3)
        frames.drop(0, 0)
        self.assertEqual(frames.asked(0), 2)
        frames.slot_ended(0)
        frames.drop(0, 3)
        self.assertEqual(frames.asked(0), 1)
        self.assertEqual(frames.slot_ended(0), [4])
        self.assertEqual((frames.taken(0), frames.holdings(0)), ([4], [1, 2]))

    def test_enough_was_dropped(self):
        frames = self.frames
        frames.ask_back(0, 1)
        frames.drop(0, 0)
        frames.drop(0, 1)
        self.assertEqual(frames.asked(0), 0)
        self.assertEqual([frames.slot_ended(0), frames.slot_ended(0), frames.taken(0)], [[], [], []])

    def test_at_most_down_to_the_share(self):
        frames = self.frames
        frames.ask_back(0, 99)
        self.assertEqual(frames.asked(0), 99)
        frames.slot_ended(0)
        self.assertEqual(frames.slot_ended(0), [5, 4, 3, 2])
        self.assertEqual((frames.asked(0), frames.charge(0)), (0, 2))
        frames.ask_back(0, 1)
        frames.slot_ended(0)
        self.assertEqual(frames.slot_ended(0), [])
        self.assertEqual((frames.asked(0), frames.charge(0), frames.taken(0)), (0, 2, [5, 4, 3, 2]))

    def test_below_the_share(self):
        frames = Frames(8, [5, 0, 0, 0])
        frames.take(0)
        frames.ask_back(0, 4)
        frames.slot_ended(0)
        self.assertEqual(frames.slot_ended(0), [])
        self.assertEqual(frames.holdings(0), [0])

    def test_a_new_asking_replaces_the_old_one(self):
        frames = self.frames
        frames.ask_back(0, 4)
        frames.drop(0, 0)
        frames.slot_ended(0)
        frames.ask_back(0, 1)
        self.assertEqual(frames.asked(0), 1)
        self.assertEqual(frames.slot_ended(0), [])
        self.assertEqual(frames.slot_ended(0), [5])
        self.assertEqual(frames.holdings(0), [1, 2, 3, 4])

    def test_newest_holding_is_not_the_greatest_frame(self):
        frames = self.frames
        frames.drop(0, 1)
        frames.take(0)
        frames.narrow(0, 1)
        frames.ask_back(0, 2)
        frames.slot_ended(0)
        self.assertEqual(frames.slot_ended(0), [1, 5])

    def test_what_is_taken_ends_offers_and_counts_for_one_only(self):
        frames = self.frames
        frames.offer(0, 5, 1, "r")
        frames.ask_back(0, 1)
        self.assertEqual((frames.slot_ended(1), frames.slot_ended(1)), ([], []))
        self.assertEqual((frames.asked(0), frames.asked(1)), (1, 0))
        frames.slot_ended(0)
        self.assertEqual(frames.slot_ended(0), [5])
        self.assertIs(frames.accept(1, 5, 0), False)
        self.assertEqual(frames.taken(1), [])

    def test_taken_tells_all_ever_taken(self):
        frames = self.frames
        for _ in range(2):
            frames.ask_back(0, 1)
            frames.slot_ended(0)
            frames.slot_ended(0)
        self.assertEqual(frames.taken(0), [5, 4])
        frames.take(0)
        frames.ask_back(0, 1)
        frames.slot_ended(0)
        self.assertEqual(frames.slot_ended(0), [4])
        self.assertEqual(frames.taken(0), [5, 4, 4])

    def test_what_was_taken_is_not_the_callers(self):
        frames = self.frames
        frames.ask_back(0, 1)
        frames.slot_ended(0)
        gone = frames.slot_ended(0)
        gone.append(77)
        self.assertEqual(frames.taken(0), [5])

    def test_out_of_bounds(self):
        before = book(self.frames)
        for e, many in ((4, 1), (-4, 1), (0, 0), (0, -1), (0, True), ("0", 1)):
            with self.assertRaises(NotValid):
                self.frames.ask_back(e, many)
        for e in (4, -4, "0", None):
            with self.assertRaises(NotValid):
                self.frames.slot_ended(e)
        self.assertEqual(book(self.frames), before)


class AtEveryMoment(unittest.TestCase):
    """Random acts against a book that is kept by the words of the points alone."""

    def act(self, chance, frames):
        e, frame, other = chance.randrange(-1, 5), chance.randrange(-1, 9), chance.randrange(-1, 5)
        below = 0 <= e < 4 and frames.charge(e) < frames.share(e)
        may = 0 <= e < 4 and (below or frames.left() > shortfall(frames))
        held = [frames.right(x, frame) for x in range(4)]
        free = frames.free()
        kind = chance.randrange(6)
        if kind <= 1:
            self.assertEqual(frames.take(e), free[0] if may else None)
        elif kind == 2:
            right = chance.choice(["r", "rw"])
            can = 0 <= e < 4 and 0 <= other < 4 and e != other and held[e] in (right, "rw")
            self.assertIs(frames.offer(e, frame, other, right), can)
            if can:
                self.offers[e, frame, other] = right
        elif kind == 3:
            right = self.offers.get((other, frame, e))
            can = may and right is not None and held[other] in (right, "rw") and held[e] is None
            self.assertIs(frames.accept(e, frame, other), can)
            if can:
                del self.offers[other, frame, e]
                self.assertEqual(frames.right(e, frame), right)
        elif kind == 4:
            can = 0 <= e < 4 and held[e] is not None
            self.assertIs(frames.drop(e, frame), can)
            if can:
                self.offers = {key: self.offers[key] for key in self.offers if key[:2] != (e, frame)}
        else:
            self.assertIs(frames.narrow(e, frame), 0 <= e < 4 and held[e] == "rw")

    def test_random_acts(self):
        chance = random.Random(11)
        for _ in range(120):
            shares = [chance.randrange(3) for _ in range(4)]
            frames = Frames(8, shares)
            self.offers = {}
            for _ in range(150):
                self.act(chance, frames)
                charges = [frames.charge(e) for e in range(4)]
                self.assertEqual(frames.left(), 8 - sum(charges))
                self.assertGreaterEqual(frames.left(), shortfall(frames))
                held = {frame for e in range(4) for frame in frames.holdings(e)}
                self.assertEqual(frames.free(), [frame for frame in range(8) if frame not in held])


if __name__ == "__main__":
    unittest.main()
