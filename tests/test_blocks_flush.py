"""[34] and [35]: flushing, linking writes, and cuts."""

import itertools
import unittest

from blocks_case import NOTHING, BlocksCase, words

from steadhold.blocks import Blocks
from steadhold.disk import disk_from


class Flushing(BlocksCase):
    def test_no_buffer(self):
        self.begin(image={0: words(9, 2)})
        for block in (0, 9, 1, -1, 24, 99, True, False, None, "0", (0,), [0]):
            self.no("buffer", "flush", block)
        self.fetched(0)
        self.no("buffer", "flush", 0, by=1)

    def test_writes_that_do_not_link(self):
        self.begin()
        one, other = self.filled(0, 5), self.filled(2)
        self.assertIsNone(self.ok("flush", one))
        self.assertEqual(self.disk.queue(), [("write", one, words(5), 0)])
        self.no("busy", "flush", one)
        self.ok("alter", ((one, words(6)),))
        self.no("busy", "flush", one)
        self.ok("flush", other)
        self.do_all()
        self.assertEqual(self.disk.words(one), words(5))
        self.ok("flush", one)
        self.do_all()
        self.assertEqual(self.disk.words(one), words(6))

    def test_other_words_of_the_lasting_forest_do_not_link(self):
        self.begin(image={0: words(9, 2), 9: words(10, 11)})
        self.fetched(9, 10, 11)
        self.ok("alter", ((9, words(11, 10, 8)),))
        self.ok("flush", 9)
        self.ok("alter", ((10, words(0, 0, 1)),))
        self.ok("flush", 10)
        self.do_all()
        self.assertEqual(self.disk.words(9), words(11, 10, 8))

    def test_a_type_that_changes_links(self):
        self.begin(image={0: words(9, 2)})
        self.fetched(0)
        self.ok("alter", ((0, NOTHING),))
        self.ok("fetch", 0)
        self.flushed(0)
        node = self.filled(3)
        self.flushed(node)
        self.ok("alter", ((0, words(node, 3)),))
        self.ok("flush", 0)
        self.no("busy", "flush", node)


class Linking(BlocksCase):
    def ready(self):
        """A node with a leaf, written, and the root's words for it."""
        self.begin()
        self.fetched(0)
        self.leaf = self.filled(0, 7)
        self.node = self.filled(3, self.leaf)
        self.flushed(self.leaf, self.node)
        self.ok("alter", ((0, words(self.node, 3)),))

    def test_done(self):
        self.ready()
        self.ok("flush", 0)
        self.assertEqual(self.blocks.lasting_forest(0), {0: (None, 1)})
        self.no("busy", "flush", self.node)
        self.no("busy", "flush", self.leaf)
        self.do_all()
        forest = {0: (None, 1), self.node: (0, 3), self.leaf: (self.node, 0)}
        self.assertEqual(self.blocks.lasting_forest(0), forest)
        self.assertEqual(self.blocks.memory_forest(0), forest)
        self.ok("flush", self.node)
        self.ok("flush", 0)

    def test_while_a_write_waits(self):
        self.ready()
        self.ok("alter", ((self.leaf, words(8)),))
        self.ok("flush", self.leaf)
        self.no("busy", "flush", 0)
        self.do_all()
        self.ok("flush", 0)

    def test_while_a_read_waits(self):
        self.ready()
        self.ok("forget", self.leaf)
        self.ok("fetch", self.leaf)
        self.no("busy", "flush", 0)
        self.do_all()
        self.ok("flush", 0)

    def test_a_write_that_does_not_link_while_a_read_waits(self):
        self.ready()
        self.ok("forget", self.leaf)
        self.ok("fetch", self.leaf)
        self.ok("flush", self.node)

    def test_a_read_behind_a_linking_write(self):
        self.ready()
        self.ok("forget", self.leaf)
        self.ok("flush", 0)
        self.assertEqual(self.ok("fetch", self.leaf), "wait")
        self.blocks.do(1)
        self.assertEqual(self.ok("words", self.leaf), words(7))
        self.no("busy", "flush", self.leaf)

    def test_what_another_environment_has_waiting_does_not_count(self):
        self.ready()
        other = self.filled(0, by=1)
        self.ok("flush", other, by=1)
        self.ok("fetch", 2, by=2)
        self.ok("flush", 0)
        self.do_all()
        self.no("buffer", "flush", self.node, by=1)

    def test_a_block_that_is_not_fresh(self):
        self.begin()
        self.fetched(0)
        leaf = self.filled(0, 7)
        node = self.filled(3, leaf)
        self.flushed(node)
        self.ok("alter", ((0, words(node, 3)),))
        self.no("forest", "flush", 0)
        self.flushed(leaf)
        self.ok("flush", 0)

    def test_the_new_block_itself_is_not_fresh(self):
        self.begin()
        self.fetched(0)
        node = self.filled(3)
        self.ok("alter", ((0, words(node, 3)),))
        self.no("forest", "flush", 0)

    def test_a_block_that_is_not_charged(self):
        """The node was written when it owned a block that was given back since: its old words still lead there."""
        self.begin()
        self.fetched(0)
        leaf = self.filled(0, 7)
        node = self.filled(3, leaf)
        self.flushed(leaf, node)
        self.ok("alter", ((node, NOTHING),))
        self.ok("alter", ((0, words(node, 3)),))
        self.assertIn(leaf, self.blocks.free())
        self.assertTrue(self.blocks.is_fresh(leaf))
        self.no("forest", "flush", 0)
        self.assertEqual(self.ok("reserve", by=1), leaf)
        self.ok("fill", leaf, 0, by=1)
        self.flushed(leaf, by=1)
        self.assertTrue(self.blocks.is_fresh(leaf))
        self.no("forest", "flush", 0)
        self.flushed(node)
        self.ok("flush", 0)

    def test_a_block_that_is_reached_twice(self):
        """By memory the leaf has moved; by lasting words both nodes own it."""
        self.begin()
        self.fetched(0)
        leaf = self.filled(2)
        one, other = self.filled(2, leaf), self.filled(2)
        top = self.filled(2, one, other)
        self.flushed(leaf, one, other, top)
        self.ok("alter", ((one, NOTHING), (other, words(leaf))))
        self.flushed(other)
        self.ok("alter", ((0, words(top, 2)),))
        self.no("forest", "flush", 0)
        self.flushed(one)
        self.ok("flush", 0)

    def test_a_block_that_is_reached_twice_in_the_lasting_forest(self):
        self.begin(image={0: words(9, 2), 9: words(10, 11), 10: words(12)})
        self.fetched(9, 10, 11)
        self.ok("alter", ((10, NOTHING), (11, words(12))))
        self.no("forest", "flush", 11)
        self.flushed(10)
        self.assertNotIn(12, self.blocks.lasting_forest(0))
        self.assertIn(12, self.blocks.charged(0))
        self.flushed(11)
        self.assertEqual(self.blocks.lasting_forest(0)[12], (11, 2))

    def test_ill_words_by_the_lasting_type(self):
        """A block can lie in the lasting forest with one type while it is reserved and filled with another one."""
        self.begin()
        self.fetched(0)
        leaf = self.filled(2)
        node = self.filled(2, leaf)
        self.flushed(leaf, node)
        self.ok("alter", ((node, NOTHING),))
        self.assertEqual(self.ok("reserve"), leaf)
        self.ok("fill", leaf, 0)
        self.flushed(leaf)
        self.ok("alter", ((0, words(node, 2)),))
        self.ok("flush", 0)
        self.do_all()
        self.assertEqual(self.blocks.lasting_forest(0)[leaf], (node, 2))
        self.assertEqual(self.blocks.memory_forest(0)[leaf], (None, 0))
        self.ok("alter", ((leaf, words(1, 2, 3)),))
        self.no("forest", "flush", leaf)
        self.ok("alter", ((leaf, words(0, 0, 3)),))
        self.ok("flush", leaf)

    def test_a_block_below_itself_by_lasting_words(self):
        self.begin()
        self.fetched(0)
        low = self.filled(2)
        high = self.filled(2, low)
        self.flushed(low, high)
        self.ok("alter", ((high, NOTHING),))
        self.assertEqual(self.ok("reserve"), low)
        self.ok("fill", low, 2)
        self.ok("alter", ((low, words(high)),))
        self.flushed(low)
        self.ok("alter", ((0, words(low, 2)),))
        self.no("forest", "flush", 0)

    def test_unlinking(self):
        self.begin(image={0: words(9, 2), 9: words(10)})
        self.fetched(0, 9)
        self.ok("alter", ((9, NOTHING),))
        self.ok("flush", 9)
        self.no("busy", "flush", 0)
        self.do_all()
        self.assertEqual(self.blocks.lasting_forest(0), {0: (None, 1), 9: (0, 2)})
        self.assertIn(10, self.blocks.free())


class Cuts(BlocksCase):
    """At each moment of a history, with any of the queued writes done, the lasting forests are forests apart."""

    def check(self, history):
        queue = self.disk.queue()
        for choices in itertools.product((0, 1), repeat=len(queue)):
            disk = disk_from(self.disk.image())
            for operation in queue:
                disk.add(operation)
            disk.cut(list(choices))
            begun = Blocks(disk, [5, 5, 5, 5], self.types)
            seen = {}
            for e in range(4):
                for block in begun.lasting_forest(e):
                    self.assertNotIn(block, seen)
                    seen[block] = e
            for block in self.blocks.free():
                self.assertNotIn(block, seen)
            self.assertIn(begun.lasting_forest(0), history)
            self.assertEqual([b for b in range(24) if begun.is_fresh(b)], sorted(seen))
            self.assertEqual([begun.memory_forest(e) for e in range(4)], [begun.lasting_forest(e) for e in range(4)])

    def test_a_root_that_is_led_to_another_node(self):
        self.begin((5, 5, 5, 5), {0: words(9, 2), 9: words(10), 1: words(20, 3), 20: words(0, 21)})
        old = self.blocks.lasting_forest(0)
        self.fetched(0, 9)
        leaf = self.filled(2)
        node = self.filled(2, leaf)
        self.check([old])
        for block in (leaf, node):
            self.ok("flush", block)
            self.check([old])
        self.do_all()
        self.ok("alter", ((9, NOTHING), (node, words(leaf, 10))))
        self.ok("flush", node)
        self.check([old])
        self.do_all()
        self.check([old])
        self.ok("alter", ((0, words(node, 2)),))
        self.ok("flush", 0)
        new = {0: (None, 1), node: (0, 2), leaf: (node, 2), 10: (node, 2)}
        self.check([old, new])
        self.do_all()
        self.check([new])
        self.assertEqual(self.blocks.charged(0), [leaf, node, 10])


if __name__ == "__main__":
    unittest.main()
