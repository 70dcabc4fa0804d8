"""Promises [18] to [20]: the net."""

import random
import unittest

from steadhold.errors import NotValid
from steadhold.filters import common, meets
from steadhold.net import RING, Net

NOWHERE = [None] * 4
BY_FOUR = [((0, 3, e),) for e in range(4)]


def packet_of(*words):
    return words + (0,) * (6 - len(words))


class Making(unittest.TestCase):
    def test_constant(self):
        self.assertEqual(RING, 8)

    def test_regions(self):
        for regions in (NOWHERE, BY_FOUR, [None, (), None, None], [((0, 1, 1),), None, None, ((0, 1, 0),)]):
            net = Net(list(regions))
            self.assertEqual((net.filters(), net.sent(), net.lost()), ([], [], 0))

    def test_refused(self):
        for regions in (
            [None] * 3, [None] * 5, None, (None,) * 4, "none", [0, None, None, None], [True] * 4,
            [[(0, 1, 1)], None, None, None], [((0, 0, 0),), None, None, None], [((0, 1, 2),), None, None, None],
            [(), (), None, None], [None, (), None, ((5, 1, 1),)], [((0, 3, 1),), None, ((0, 4, 0),), None],
            [((0, 3, 1),), None, None, ((0, 3, 1),)], [None, None, ((0, 3, 1),), ((1, 3, 1),)],
        ):
            with self.assertRaises(NotValid):
                Net(regions)

    def test_regions_are_not_changed_and_not_kept(self):
        regions = list(BY_FOUR)
        net = Net(regions)
        net.enroll(0, ((0, 3, 0),))
        self.assertEqual(regions, BY_FOUR)
        regions[1] = None
        self.assertEqual(net.enroll(0, ((0, 3, 1),)), packet_of(1))


class Enrolling(unittest.TestCase):
    def test_names(self):
        net = Net(list(BY_FOUR))
        self.assertEqual(net.enroll(1, ((0, 3, 1),)), 1)
        self.assertEqual(net.enroll(0, ((0, 7, 4),)), 2)
        self.assertEqual(net.enroll(0, ((0, 1, 1),)), packet_of(1))
        self.assertEqual(net.enroll(1, ((0, 3, 1), (1, 1, 1))), 3)
        self.assertTrue(net.give_up(1, 3))
        self.assertEqual(net.enroll(1, ((0, 3, 1), (1, 1, 1))), 4)
        self.assertEqual(net.filters(), [
            (1, 1, ((0, 3, 1),)), (2, 0, ((0, 7, 4),)), (4, 1, ((0, 3, 1), (1, 1, 1))),
        ])

    def test_refused_by_the_least_environment(self):
        net = Net([((0, 3, 3),), ((0, 3, 1),), None, ((0, 3, 2),)])
        self.assertEqual(net.enroll(2, ()), packet_of(3))
        self.assertEqual(net.enroll(0, ()), packet_of(1))
        self.assertEqual(net.enroll(1, ((2, 8, 8),)), (3, 0, 8, 0, 0, 0))
        self.assertEqual(net.enroll(2, ((0, 2, 2),)), packet_of(3))
        self.assertEqual(net.enroll(2, ((0, 1, 0), (0 + 1, 1, 1))), (2, 1, 0, 0, 0, 0))

    def test_the_region_is_told_before_a_filter(self):
        net = Net([None, None, None, ((0, 7, 7),)])
        self.assertEqual(net.enroll(0, ((0, 7, 1),)), 1)
        self.assertEqual(net.enroll(1, ((0, 1, 1),)), packet_of(7))
        self.assertEqual(net.enroll(1, ((0, 5, 1),)), packet_of(1))
        self.assertEqual(net.enroll(1, ((0, 7, 3),)), 2)

    def test_the_filter_with_the_least_name_is_told(self):
        net = Net(list(NOWHERE))
        for word in (9, 5, 3):
            net.enroll(3, ((1, 15, word),))
        self.assertEqual(net.enroll(0, ((1, 1, 1),)), packet_of(0, 9))
        net.give_up(3, 1)
        net.enroll(3, ((1, 15, 9),))
        self.assertEqual(net.enroll(0, ((1, 1, 1),)), packet_of(0, 5))

    def test_filters_of_one_environment_may_have_packets_in_common(self):
        net = Net(list(NOWHERE))
        self.assertEqual([net.enroll(2, ()), net.enroll(2, ((0, 1, 1),)), net.enroll(2, ())], [1, 2, 3])
        self.assertEqual(net.enroll(1, ((0, 1, 0),)), packet_of(0))

    def test_within_the_own_region_never_refused(self):
        net = Net([((0, 3, 0),), None, None, None])
        self.assertEqual(net.enroll(1, ((1, 1, 1),)), packet_of(0, 1))
        self.assertEqual(net.enroll(1, ((0, 3, 1),)), 1)
        self.assertEqual(net.enroll(0, ((0, 3, 0),)), 2)
        self.assertEqual(net.enroll(0, ((0, 7, 4), (1, 1, 1))), 3)

    def test_a_filter_that_was_given_up_refuses_nothing(self):
        net = Net(list(NOWHERE))
        net.enroll(0, ())
        self.assertEqual(net.enroll(1, ()), packet_of())
        net.give_up(0, 1)
        self.assertEqual(net.enroll(1, ()), 2)

    def test_not_valid(self):
        net = Net(list(NOWHERE))
        for tests in (None, [], [(0, 1, 1)], ((0, 0, 0),), ((0, 1, 2),), ((6, 1, 1),), 5, "x"):
            with self.assertRaises(NotValid):
                net.enroll(0, tests)
        for environment in (4, -1, None, "0"):
            with self.assertRaises(NotValid):
                net.enroll(environment, ())
        self.assertEqual(net.filters(), [])
        self.assertEqual(net.enroll(0, ()), 1)


class Coming(unittest.TestCase):
    def test_the_least_name(self):
        net = Net(list(NOWHERE))
        net.enroll(0, ((0, 3, 3),))
        net.enroll(0, ((0, 1, 1),))
        net.enroll(0, ())
        self.assertEqual(net.come(packet_of(3)), 1)
        self.assertEqual(net.come(packet_of(1)), 2)
        self.assertEqual(net.come(packet_of(2)), 3)
        net.give_up(0, 1)
        self.assertEqual(net.come(packet_of(3)), 2)
        self.assertEqual([net.ring(name) for name in (1, 2, 3)], [[], [packet_of(1), packet_of(3)], [packet_of(2)]])
        self.assertEqual(net.lost(), 0)

    def test_a_full_ring(self):
        net = Net(list(NOWHERE))
        net.enroll(0, ((0, 1, 1),))
        net.enroll(0, ())
        self.assertEqual([net.come(packet_of(1, k)) for k in range(9)], [1] * 8 + [None])
        self.assertEqual(net.ring(1), [packet_of(1, k) for k in range(8)])
        self.assertEqual((net.ring(2), net.lost()), ([], 1))
        self.assertEqual(net.next(0, 1), packet_of(1, 0))
        self.assertEqual(net.come(packet_of(1, 9)), 1)
        self.assertEqual([net.next(0, 1)[1] for _ in range(8)], [1, 2, 3, 4, 5, 6, 7, 9])
        self.assertEqual(net.lost(), 1)

    def test_no_filter_is_met(self):
        net = Net(list(BY_FOUR))
        self.assertIsNone(net.come(packet_of(0)))
        net.enroll(0, ((0, 7, 4),))
        self.assertIsNone(net.come(packet_of(0)))
        self.assertEqual(net.come(packet_of(12)), 1)
        self.assertEqual(net.lost(), 2)

    def test_not_valid(self):
        net = Net(list(NOWHERE))
        net.enroll(0, ())
        for packet in (None, [0] * 6, (0,) * 5, (0,) * 7, (True, 0, 0, 0, 0, 0), (-1, 0, 0, 0, 0, 0), "packet", 0):
            with self.assertRaises(NotValid):
                net.come(packet)
            with self.assertRaises(NotValid):
                net.send(packet)
        self.assertEqual((net.ring(1), net.lost(), net.sent()), ([], 0, []))


class TakingOut(unittest.TestCase):
    def setUp(self):
        self.net = Net(list(NOWHERE))
        self.net.enroll(1, ())

    def test_in_order(self):
        for k in (5, 3, 4):
            self.net.come(packet_of(k))
        self.assertEqual([self.net.next(1, 1) for _ in range(4)], [packet_of(5), packet_of(3), packet_of(4), None])
        self.assertEqual(self.net.ring(1), [])

    def test_of_others_and_of_none(self):
        self.net.come(packet_of(5))
        for environment, name in (
            (0, 1), (2, 1), (4, 1), (-3, 1), (1, 0), (1, 2), (1, -1), (1, None), (1, "1"), (1, True), (1, [1]),
            (True, 1), (1, (1,)),
        ):
            self.assertIsNone(self.net.next(environment, name))
            self.assertIs(self.net.give_up(environment, name), False)
        self.assertEqual(self.net.ring(1), [packet_of(5)])
        for name in (0, 2, -1, None, "1", True, [1]):
            self.assertEqual(self.net.ring(name), [])

    def test_given_up(self):
        self.net.come(packet_of(5))
        self.assertIs(self.net.give_up(1, 1), True)
        self.assertIs(self.net.give_up(1, 1), False)
        self.assertIsNone(self.net.next(1, 1))
        self.assertEqual((self.net.ring(1), self.net.filters()), ([], []))
        self.assertIsNone(self.net.come(packet_of(5)))
        self.assertEqual(self.net.lost(), 1)
        self.assertEqual(self.net.enroll(1, ()), 2)
        self.assertEqual(self.net.ring(2), [])

    def test_returned_lists_are_the_callers(self):
        self.net.come(packet_of(5))
        ring, filters, sent = self.net.ring(1), self.net.filters(), self.net.sent()
        self.net.come(packet_of(6))
        self.net.enroll(1, ())
        self.net.send(packet_of(7))
        self.assertEqual((ring, filters, sent), ([packet_of(5)], [(1, 1, ())], []))
        ring.append(0)
        filters.append(0)
        sent.append(0)
        self.assertEqual(self.net.ring(1), [packet_of(5), packet_of(6)])
        self.assertEqual(self.net.filters(), [(1, 1, ()), (2, 1, ())])
        self.assertEqual(self.net.sent(), [packet_of(7)])


class Sending(unittest.TestCase):
    def test_order(self):
        net = Net(list(BY_FOUR))
        packets = [packet_of(3), packet_of(1), packet_of(3), packet_of(0, 9)]
        for packet in packets:
            net.send(packet)
        self.assertEqual(net.sent(), packets)
        self.assertEqual((net.lost(), net.filters()), (0, []))


class Random(unittest.TestCase):
    def some_filter(self, chance):
        tests = []
        for index in (0, 1):
            if chance.random() < 0.8:
                mask = chance.randrange(1, 8)
                tests.append((index, mask, mask & chance.randrange(8)))
        return tuple(tests)

    def wanted_answer(self, regions, filters, environment, tests):
        owners = [(e, regions[e]) for e in range(4) if regions[e] is not None]
        owners += [(owner, other) for _, owner, other in filters]
        for owner, other in owners:
            if owner != environment and common(other, tests) is not None:
                return common(other, tests)
        return None

    def test_random_acts(self):
        chance = random.Random(4)
        regions = [((0, 7, 1),), None, ((0, 7, 2), (1, 1, 1)), None]
        for _ in range(40):
            net = Net(list(regions))
            rings, owners, last, lost = {}, {}, 0, 0
            for _ in range(120):
                environment = chance.randrange(4)
                kind = chance.randrange(6)
                name = chance.randrange(1, last + 2)
                if kind == 0:
                    tests = self.some_filter(chance)
                    wanted = self.wanted_answer(regions, net.filters(), environment, tests)
                    if wanted is None:
                        last += 1
                        rings[last], owners[last] = [], (environment, tests)
                        wanted = last
                    self.assertEqual(net.enroll(environment, tests), wanted)
                elif kind == 1 and chance.random() < 0.3:
                    owned = name in rings and owners[name][0] == environment
                    self.assertIs(net.give_up(environment, name), owned)
                    if owned:
                        del rings[name], owners[name]
                elif kind == 2:
                    owned = name in rings and owners[name][0] == environment and rings[name]
                    self.assertEqual(net.next(environment, name), rings[name].pop(0) if owned else None)
                else:
                    packet = packet_of(chance.randrange(8), chance.randrange(8))
                    met = [name for name in sorted(rings) if meets(owners[name][1], packet)]
                    self.assertLessEqual(len({owners[name][0] for name in met}), 1)
                    fits = met and len(rings[met[0]]) < 8
                    self.assertEqual(net.come(packet), met[0] if fits else None)
                    if fits:
                        rings[met[0]].append(packet)
                    lost += not fits
                self.assertEqual(net.filters(), [(n, owners[n][0], owners[n][1]) for n in sorted(owners)])
                self.assertEqual({n: net.ring(n) for n in rings}, rings)
                self.assertEqual(net.lost(), lost)


if __name__ == "__main__":
    unittest.main()
