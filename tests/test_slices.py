"""Promises [3] to [5]: the slices."""

import random
import unittest

from steadhold.errors import NotValid
from steadhold.slices import ENVIRONMENTS, SLOTS, UNITS, Slices

NOBODY = [None] * 8


class Making(unittest.TestCase):
    def test_constants(self):
        self.assertEqual((SLOTS, UNITS, ENVIRONMENTS), (8, 6, 4))

    def test_owners_out_of_bounds(self):
        for owners in (
            [], [0] * 7, [0] * 9, [0] * 7 + [4], [0] * 7 + [-1], [True] + [0] * 7, [0] * 7 + [False],
            ["0"] * 8, tuple([0] * 8), None, 8, "00000000", [[0]] * 8,
        ):
            with self.assertRaises(NotValid):
                Slices(owners)

    def test_owners_are_not_changed_and_not_kept(self):
        owners = [0, None, 1, 2, 3, None, 0, 1]
        slices = Slices(owners)
        for _ in range(100):
            slices.pass_unit()
        self.assertEqual(owners, [0, None, 1, 2, 3, None, 0, 1])
        slices = Slices(owners)
        owners[0] = 3
        owners[2] = 3
        self.assertEqual(slices.give_up(), 0)
        self.assertEqual(slices.running(), 1)


class Passing(unittest.TestCase):
    def test_units_of_a_slot(self):
        slices = Slices([0, 1, 2, 3, 0, 1, 2, 3])
        for unit in range(6):
            self.assertEqual(slices.place(), (0, 0, unit))
            self.assertEqual(slices.running(), 0)
            self.assertEqual(slices.pass_unit(), 0 if unit == 5 else None)
        self.assertEqual(slices.place(), (0, 1, 0))
        self.assertEqual(slices.running(), 1)

    def test_next_round(self):
        slices = Slices([0, 1, 2, 3, 0, 1, 2, 3])
        ended = [slices.pass_unit() for _ in range(48)]
        self.assertEqual([owner for owner in ended if owner is not None], [0, 1, 2, 3, 0, 1, 2, 3])
        self.assertEqual(slices.place(), (1, 0, 0))
        self.assertEqual(slices.running(), 0)

    def test_slots_of_nobody(self):
        slices = Slices([None, None, 3, None, 1, None, None, None])
        self.assertEqual(slices.place(), (0, 2, 0))
        self.assertEqual(slices.running(), 3)
        self.assertEqual([slices.pass_unit() for _ in range(6)], [None] * 5 + [3])
        self.assertEqual((slices.place(), slices.running()), ((0, 4, 0), 1))
        self.assertEqual(slices.give_up(), 1)
        self.assertEqual((slices.place(), slices.running()), ((1, 2, 0), 3))

    def test_one_slot_only(self):
        for slot in range(8):
            slices = Slices([2 if at == slot else None for at in range(8)])
            for turn in range(3):
                self.assertEqual(slices.place(), (turn, slot, 0))
                self.assertEqual(slices.give_up(), 2)

    def test_nobody_runs(self):
        slices = Slices(list(NOBODY))
        for _ in range(20):
            self.assertIsNone(slices.running())
            self.assertEqual(slices.place(), (0, 0, 0))
            self.assertIsNone(slices.pass_unit())
            self.assertIsNone(slices.give_up())
            slices.hand_on(2)
        with self.assertRaises(NotValid):
            slices.hand_on(4)
        self.assertIsNone(slices.running())
        self.assertEqual(slices.place(), (0, 0, 0))


class HandingOn(unittest.TestCase):
    def test_rest_ends_with_the_slot(self):
        slices = Slices([0, 1, 2, 3, 0, 1, 2, 3])
        slices.pass_unit()
        slices.hand_on(3)
        self.assertEqual((slices.running(), slices.place()), (3, (0, 0, 1)))
        self.assertEqual([slices.pass_unit() for _ in range(5)], [None] * 4 + [0])
        self.assertEqual((slices.running(), slices.place()), (1, (0, 1, 0)))

    def test_handed_on_and_given_up(self):
        slices = Slices([0, 1, 2, 3, 0, 1, 2, 3])
        slices.hand_on(2)
        slices.pass_unit()
        slices.hand_on(1)
        self.assertEqual(slices.running(), 1)
        self.assertEqual(slices.give_up(), 0)
        self.assertEqual((slices.running(), slices.place()), (1, (0, 1, 0)))

    def test_owner_holds_its_next_slot_again(self):
        slices = Slices([None] * 7 + [1])
        slices.hand_on(0)
        self.assertEqual([slices.pass_unit() for _ in range(6)][-1], 1)
        self.assertEqual((slices.running(), slices.place()), (1, (1, 7, 0)))

    def test_to_the_holder_itself_and_to_one_without_slots(self):
        slices = Slices([0] * 8)
        slices.hand_on(0)
        self.assertEqual(slices.running(), 0)
        slices.hand_on(3)
        self.assertEqual(slices.running(), 3)

    def test_refused(self):
        slices = Slices([0, 1, 2, 3, 0, 1, 2, 3])
        slices.pass_unit()
        for environment in (4, -1, 100, True, False, None, "0", (0,)):
            with self.assertRaises(NotValid):
                slices.hand_on(environment)
            self.assertEqual((slices.running(), slices.place()), (0, (0, 0, 1)))


class Rounds(unittest.TestCase):
    def test_six_units_for_each_slot_owned(self):
        chance = random.Random(5)
        for _ in range(60):
            owners = [chance.choice([0, 0, 1, 2, 3, None]) for _ in range(8)]
            owners[chance.randrange(8)] = 0
            slices = Slices(owners)
            units = {}
            while slices.place()[0] < 6:
                turn = slices.place()[0]
                if slices.running() == 0:
                    units[turn] = units.get(turn, 0) + 1
                    slices.pass_unit()
                elif chance.random() < 0.3:
                    slices.give_up()
                elif chance.random() < 0.3:
                    slices.hand_on(chance.choice([1, 2, 3]))
                else:
                    slices.pass_unit()
            self.assertEqual(units, {turn: 6 * owners.count(0) for turn in range(6)})


if __name__ == "__main__":
    unittest.main()
