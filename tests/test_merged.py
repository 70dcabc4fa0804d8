"""Promises [16] and [17]: the merged tree."""

import random
import unittest

from steadhold.filters import meets
from steadhold.merged import EMPTY, found, tree_of, with_filter, without_filter


def some_filter(chance):
    tests = []
    for index in range(6):
        if chance.random() < 0.35:
            mask = chance.choice([1, 2, 3, 6])
            tests.append((index, mask, mask & chance.randrange(8)))
    return tuple(tests)


def is_pruned(node, root=True):
    """True if the node is in the canonical form, with nothing left over."""
    names, branches = node
    if not root and not names and not branches:
        return False
    rows = [(index, mask) for index, mask, _ in branches]
    if list(names) != sorted(names) or rows != sorted(set(rows)):
        return False
    for _, _, children in branches:
        values = [value for value, _ in children]
        if not values or values != sorted(set(values)):
            return False
        if not all(is_pruned(below, False) for _, below in children):
            return False
    return True


class Trees(unittest.TestCase):
    def test_empty(self):
        self.assertEqual(EMPTY, ((), ()))
        self.assertEqual(tree_of({}), EMPTY)
        self.assertEqual(found(EMPTY, (0,) * 6), [])

    def test_without_tests(self):
        self.assertEqual(with_filter(EMPTY, 3, ()), ((3,), ()))
        self.assertEqual(found(((3,), ()), (9,) * 6), [3])

    def test_one_filter(self):
        leaf = ((1,), ())
        self.assertEqual(with_filter(EMPTY, 1, ((2, 7, 5),)), ((), ((2, 7, ((5, leaf),)),)))
        self.assertEqual(
            with_filter(EMPTY, 1, ((2, 7, 5), (4, 1, 0))),
            ((), ((2, 7, ((5, ((), ((4, 1, ((0, leaf),)),))),)),)),
        )

    def test_order_of_branches_and_children(self):
        tree = tree_of({
            1: ((3, 1, 1),), 2: ((0, 12, 8),), 3: ((0, 3, 3),), 4: ((0, 12, 4),), 5: (), 6: ((0, 12, 8), (1, 1, 1)),
        })
        self.assertEqual(tree, (
            (5,),
            (
                (0, 3, ((3, ((3,), ())),)),
                (0, 12, ((4, ((4,), ())), (8, ((2,), ((1, 1, ((1, ((6,), ())),)),))))),
                (3, 1, ((1, ((1,), ())),)),
            ),
        ))

    def test_several_end_in_one_node(self):
        tests = ((1, 1, 1),)
        tree = tree_of({10: tests, 9: tests, 2: tests, 100: tests})
        self.assertEqual(tree, ((), ((1, 1, ((1, ((2, 9, 10, 100), ())),)),)))
        self.assertEqual(found(tree, (0, 1, 0, 0, 0, 0)), [2, 9, 10, 100])
        self.assertEqual(without_filter(tree, 9, tests), tree_of({100: tests, 2: tests, 10: tests}))

    def test_names_by_number_over_several_nodes(self):
        tree = tree_of({10: (), 9: ((0, 1, 1),), 2: ((1, 1, 1),), 11: ((0, 1, 1), (1, 1, 1))})
        self.assertEqual(found(tree, (1, 1, 0, 0, 0, 0)), [2, 9, 10, 11])
        self.assertEqual(found(tree, (1, 0, 0, 0, 0, 0)), [9, 10])
        self.assertEqual(found(tree, (0, 0, 0, 0, 0, 0)), [10])

    def test_taken_away(self):
        one, two = ((0, 1, 1),), ((0, 1, 1), (1, 1, 1))
        tree = tree_of({1: one, 2: two})
        self.assertEqual(without_filter(tree, 1, one), tree_of({2: two}))
        self.assertEqual(without_filter(tree, 2, two), tree_of({1: one}))
        self.assertEqual(without_filter(without_filter(tree, 1, one), 2, two), EMPTY)
        self.assertEqual(without_filter(without_filter(tree, 2, two), 1, one), EMPTY)

    def test_one_that_is_not_there(self):
        tree = tree_of({1: ((0, 1, 1),)})
        for name, tests in ((2, ((0, 1, 1),)), (1, ()), (1, ((0, 1, 0),)), (1, ((5, 1, 1),)), (2, ((0, 1, 1), (1, 1, 1)))):
            self.assertEqual(without_filter(tree, name, tests), tree)

    def test_nothing_passed_is_changed(self):
        filters = {2: ((0, 1, 1),), 1: ()}
        tree_of(filters)
        self.assertEqual(list(filters.items()), [(2, ((0, 1, 1),)), (1, ())])


class AnyOrder(unittest.TestCase):
    def test_same_tree_and_same_names(self):
        chance = random.Random(8)
        for _ in range(150):
            names = chance.sample(range(1, 130), chance.randrange(1, 14))
            filters = {name: some_filter(chance) for name in names}
            tree = tree_of(filters)
            self.assertTrue(is_pruned(tree))
            chance.shuffle(names)
            self.assertEqual(tree_of({name: filters[name] for name in names}), tree)
            for _ in range(20):
                packet = tuple(chance.randrange(8) for _ in range(6))
                self.assertEqual(found(tree, packet), sorted(n for n in names if meets(filters[n], packet)))
            for name in chance.sample(names, len(names)):
                tree = without_filter(tree, name, filters.pop(name))
                self.assertEqual(tree, tree_of(filters))
            self.assertEqual(tree, EMPTY)


if __name__ == "__main__":
    unittest.main()
