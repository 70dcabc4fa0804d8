"""Promises [14] and [15]: the filters."""

import random
import unittest
from itertools import product

from steadhold.filters import FIELDS, common, is_filter, is_packet, meets

TOP = 2 ** 32 - 1
NO_VALUES = (None, True, False, 0, 1, -1, "", "abcdef", 1.5, [], {}, (1,), b"123456", object())


class Forms(unittest.TestCase):
    def test_constant(self):
        self.assertEqual(FIELDS, 6)

    def test_packets(self):
        for value in ((0,) * 6, (TOP,) * 6, (1, 2, 3, 4, 5, 6)):
            self.assertIs(is_packet(value), True)

    def test_no_packets(self):
        for value in NO_VALUES + (
            [0] * 6, (0,) * 5, (0,) * 7, (), (0, 0, 0, 0, 0, -1), (TOP + 1, 0, 0, 0, 0, 0), (True, 0, 0, 0, 0, 0),
            (0, 0, False, 0, 0, 0), (0, 0, 0, 0, 0, None), (0, 0, 0, 0, 0, "0"), (0, 0, 0, 0, 0, 0.0),
            ((0,), 0, 0, 0, 0, 0),
        ):
            self.assertIs(is_packet(value), False, value)

    def test_filters(self):
        for value in (
            (), ((0, 1, 0),), ((5, TOP, TOP),), ((0, 255, 7),), ((1, 6, 2), (4, 1, 1)),
            tuple((index, 1, 1) for index in range(6)),
        ):
            self.assertIs(is_filter(value), True)

    def test_no_filters(self):
        for value in NO_VALUES + (
            [(0, 1, 1)], ([0, 1, 1],), ((0, 1),), ((0, 1, 1, 1),), (0, 1, 1), ((),), (None,), ("abc",),
            ((-1, 1, 1),), ((6, 1, 1),), ((True, 1, 1),), ((0, True, 1),), ((0, 1, True),), ((0, 1, False),),
            ((0, 0, 0),), ((0, -1, 1),), ((0, TOP + 1, 1),), ((0, 1, -1),), ((0, TOP, TOP + 1),),
            ((0, 1, 2),), ((0, 1, 3),), ((0, 255, 256),), ((0, "1", 1),), ((0, 1, None),), ((None, 1, 1),),
            ((0, 1.0, 1),), ((0, 1, 1.0),), (([0], 1, 1),),
            ((0, 1, 1), (0, 2, 2)), ((1, 1, 1), (0, 1, 1)), ((0, 1, 1), (2, 1, 1), (1, 1, 1)),
            tuple((index, 1, 1) for index in (0, 1, 2, 3, 4, 5, 5)), tuple((index, 1, 1) for index in range(7)),
            ((0, 1, 1), None), ((0, 1, 1), [1, 1, 1]),
        ):
            self.assertIs(is_filter(value), False, value)


class Meeting(unittest.TestCase):
    def test_all_tests_hold(self):
        tests = ((0, 255, 7), (5, 3, 2))
        self.assertIs(meets(tests, (7, 0, 0, 0, 0, 2)), True)
        self.assertIs(meets(tests, (263, 9, 9, 9, 9, 6)), True)
        self.assertIs(meets(tests, (8, 0, 0, 0, 0, 2)), False)
        self.assertIs(meets(tests, (7, 0, 0, 0, 0, 3)), False)
        self.assertIs(meets(tests, (0, 0, 0, 0, 0, 0)), False)

    def test_the_value_zero(self):
        self.assertIs(meets(((1, 1, 0),), (1, 2, 1, 1, 1, 1)), True)
        self.assertIs(meets(((1, 1, 0),), (0, 1, 0, 0, 0, 0)), False)

    def test_without_tests(self):
        self.assertIs(meets((), (0,) * 6), True)
        self.assertIs(meets((), (TOP,) * 6), True)


class Common(unittest.TestCase):
    def test_examples(self):
        self.assertEqual(common(((0, 255, 7),), ((0, 65280, 256), (2, 1, 1))), (263, 0, 1, 0, 0, 0))
        self.assertIsNone(common(((0, 255, 7),), ((0, 3, 1),)))

    def test_masks(self):
        self.assertEqual(common(((1, 12, 4),), ((1, 3, 2),)), (0, 6, 0, 0, 0, 0))
        self.assertEqual(common(((1, 6, 4),), ((1, 12, 12),)), (0, 12, 0, 0, 0, 0))
        self.assertEqual(common(((1, 6, 4),), ((1, 12, 8),)), None)
        self.assertEqual(common(((1, 6, 4),), ((1, 6, 4),)), (0, 4, 0, 0, 0, 0))
        self.assertEqual(common(((1, 6, 0),), ((1, 6, 4),)), None)

    def test_an_index_of_one_only(self):
        self.assertEqual(common(((0, 1, 1),), ((5, 2, 2),)), (1, 0, 0, 0, 0, 2))
        self.assertEqual(common(((0, 1, 1), (3, 4, 4)), ((3, 4, 0),)), None)

    def test_without_tests(self):
        self.assertEqual(common((), ()), (0,) * 6)
        self.assertEqual(common((), ((4, TOP, TOP),)), (0, 0, 0, 0, TOP, 0))
        self.assertEqual(common(((4, TOP, TOP),), ()), (0, 0, 0, 0, TOP, 0))

    def some_filter(self, chance):
        tests = []
        for index in (0, 2):
            if chance.random() < 0.7:
                mask = chance.randrange(1, 8)
                tests.append((index, mask, mask & chance.randrange(8)))
        return tuple(tests)

    def test_exactly_if_there_is_one(self):
        chance = random.Random(2)
        packets = [(a, 0, b, 0, 0, 0) for a, b in product(range(8), repeat=2)]
        nones = 0
        for _ in range(1500):
            one, other = self.some_filter(chance), self.some_filter(chance)
            packet = common(one, other)
            met = [p for p in packets if meets(one, p) and meets(other, p)]
            self.assertEqual(packet is None, not met)
            self.assertEqual(common(other, one), packet)
            nones += packet is None
            if packet is not None:
                self.assertTrue(is_packet(packet))
                self.assertEqual(packet, met[0])
        self.assertGreater(nones, 200)


if __name__ == "__main__":
    unittest.main()
