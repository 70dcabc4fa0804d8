"""[27] to [32]: forests, fresh and charged blocks, and the requests but altering and flushing."""

import unittest

from blocks_case import MIXED, NOTHING, PAIR, BlocksCase, new_types, words

from steadhold.blocks import Blocks
from steadhold.disk import Disk, disk_from
from steadhold.errors import NotValid
from steadhold.owning import Types


class Constructor(unittest.TestCase):
    def test_fields(self):
        disk, types = Disk(30), Types(30)
        blocks = Blocks(disk, [0, 0, 0, 0], types)
        self.assertIs(blocks.disk, disk)
        self.assertIs(blocks.types, types)
        self.assertEqual(Blocks(disk, [0, 0, 0, 0]).types.count(), 2)

    def test_shares(self):
        Blocks(Disk(24), [20, 0, 0, 0])
        Blocks(Disk(24), [5, 5, 5, 5])
        for shares in (
            [21, 0, 0, 0], [5, 5, 5, 6], [1, 1, 1], [1] * 5, (1, 1, 1, 1), [1, 1, 1, -1], [True, 1, 1, 1], None, 4,
            ["1", 1, 1, 1], [1, 1, 1, None],
        ):
            with self.assertRaises(NotValid):
                Blocks(Disk(24), shares)

    def test_the_list_of_shares_is_not_kept(self):
        shares = [1, 0, 0, 0]
        blocks = Blocks(Disk(24), shares)
        shares[0] = 0
        self.assertEqual(blocks.request(0, ("reserve",)), ("ok", 4))
        self.assertEqual(shares, [0, 0, 0, 0])

    def test_environments_out_of_bounds(self):
        blocks = Blocks(Disk(24), [5, 5, 5, 5])
        for environment in (-1, 4, None, True, "0"):
            with self.assertRaises(NotValid):
                blocks.request(environment, ("charged",))
            with self.assertRaises(NotValid):
                blocks.lasting_forest(environment)
            with self.assertRaises(NotValid):
                blocks.memory_forest(environment)
            with self.assertRaises(NotValid):
                blocks.charged(environment)
            with self.assertRaises(NotValid):
                blocks.reserved(environment)


class Forests(BlocksCase):
    def test_an_empty_disk(self):
        self.begin()
        for e in range(4):
            self.assertEqual(self.blocks.lasting_forest(e), {e: (None, 1)})
            self.assertEqual(self.blocks.memory_forest(e), {e: (None, 1)})
            self.assertEqual(self.blocks.charged(e), [])
            self.assertTrue(self.blocks.is_fresh(e))
        self.assertEqual(self.blocks.free(), list(range(4, 24)))
        self.assertFalse(self.blocks.is_fresh(4))

    def test_a_start_on_forests(self):
        image = {0: words(9, 3), 9: words(5, 7), 7: words(6, 11), 2: words(20, 0), 20: words(8, 8), 13: words(1, 2)}
        self.begin(image=image)
        first = {0: (None, 1), 9: (0, 3), 5: (9, 0), 7: (9, 2), 6: (7, 2), 11: (7, 2)}
        self.assertEqual(self.blocks.lasting_forest(0), first)
        self.assertEqual(self.blocks.memory_forest(0), first)
        self.assertEqual(self.blocks.lasting_forest(2), {2: (None, 1), 20: (2, 0)})
        self.assertEqual(self.blocks.charged(0), [5, 6, 7, 9, 11])
        fresh = [block for block in range(-1, 30) if self.blocks.is_fresh(block)]
        self.assertEqual(fresh, [0, 1, 2, 3, 5, 6, 7, 9, 11, 20])
        for e in range(4):
            self.assertEqual(self.blocks.reserved(e), [])
            for block in range(24):
                self.assertEqual(self.ask("words", block, by=e), ("no", "buffer"))

    def test_is_fresh_of_what_is_no_block(self):
        self.begin()
        for value in (-1, 24, True, None, "0"):
            self.assertFalse(self.blocks.is_fresh(value))

    def test_a_reserved_block_that_was_not_filled_owns_nothing(self):
        self.begin(image={4: words(5, 6)})
        self.assertEqual(self.ok("reserve"), 4)
        self.assertEqual(self.blocks.memory_forest(0), {0: (None, 1), 4: (None, None)})
        self.ok("fill", 4, 2)
        self.assertEqual(self.blocks.memory_forest(0), {0: (None, 1), 4: (None, 2)})
        self.assertEqual(self.ok("words", 4), NOTHING)

    def test_memory_words_and_lasting_words(self):
        self.begin(image={0: words(9, 2), 9: words(10, 11)})
        self.fetched(9)
        self.ok("alter", ((9, words(0, 11)),))
        self.assertEqual(self.blocks.memory_forest(0), {0: (None, 1), 9: (0, 2), 11: (9, 2)})
        self.assertEqual(self.blocks.lasting_forest(0), {0: (None, 1), 9: (0, 2), 10: (9, 2), 11: (9, 2)})
        self.assertEqual(self.blocks.charged(0), [9, 10, 11])
        self.assertEqual(self.ok("charged"), 3)

    def test_returned_values_are_copies(self):
        self.begin(image={0: words(9, 2)})
        for function in (self.blocks.lasting_forest, self.blocks.memory_forest, self.blocks.charged,
                         self.blocks.reserved):
            told = function(0)
            told.clear()
        self.blocks.free().clear()
        self.assertEqual(self.blocks.charged(0), [9])
        self.assertEqual(self.blocks.lasting_forest(0), self.blocks.memory_forest(0))
        kept = self.blocks.memory_forest(0)
        self.ok("reserve")
        self.assertEqual(kept, {0: (None, 1), 9: (0, 2)})


class Charged(BlocksCase):
    def test_while_a_linking_write_waits(self):
        """Blocks that only the forest behind it has are charged, and not free."""
        self.begin()
        self.fetched(0)
        leaf = self.filled(0)
        node = self.filled(3, leaf)
        self.flushed(leaf, node)
        self.ok("alter", ((0, words(node, 3)),))
        self.ok("flush", 0)
        self.ok("alter", ((node, NOTHING),))
        self.ok("alter", ((0, NOTHING),))
        self.assertEqual(self.blocks.memory_forest(0), {0: (None, 1)})
        self.assertEqual(self.blocks.lasting_forest(0), {0: (None, 1)})
        self.assertEqual(self.blocks.charged(0), [leaf, node])
        self.assertEqual(self.ok("charged"), 2)
        self.assertNotIn(leaf, self.blocks.free())
        self.do_all()
        self.assertEqual(self.blocks.lasting_forest(0), {0: (None, 1), node: (0, 3), leaf: (node, 0)})
        self.assertEqual(self.blocks.charged(0), [leaf, node])

    def test_blocks_of_queued_operations(self):
        self.begin(image={0: words(9, 2), 9: words(10)})
        self.fetched(9)
        self.ok("fetch", 10)
        self.ok("fetch", 0)
        self.ok("alter", ((9, NOTHING),))
        self.assertEqual(self.blocks.charged(0), [9, 10])
        self.disk.cut([])
        self.assertEqual(self.blocks.charged(0), [9, 10])
        self.ok("fetch", 0)
        self.assertEqual(self.blocks.charged(0), [9, 10])

    def test_a_block_is_free_only_when_nothing_of_it_waits(self):
        self.begin()
        self.fetched(0)
        node = self.filled(2)
        self.ok("alter", ((0, words(node, 2)),))
        self.ok("flush", node)
        self.ok("alter", ((0, NOTHING),))
        self.assertEqual(self.blocks.memory_forest(0), {0: (None, 1)})
        self.assertEqual(self.blocks.charged(0), [node])
        self.assertEqual(self.ok("reserve"), node + 1)
        self.do_all()
        self.assertEqual(self.blocks.charged(0), [node + 1])
        self.assertIn(node, self.blocks.free())
        self.assertEqual(self.ok("reserve"), node)
        self.assertFalse(self.blocks.is_fresh(node))

    def test_a_block_that_leaves_one_forest_is_charged_by_the_other(self):
        self.begin(image={0: words(9, 2)})
        self.fetched(0)
        self.ok("alter", ((0, NOTHING),))
        self.assertEqual(self.blocks.charged(0), [9])
        self.ok("flush", 0)
        self.assertEqual(self.blocks.charged(0), [9])
        self.do_all()
        self.assertEqual(self.blocks.charged(0), [])
        self.assertIn(9, self.blocks.free())


class Reserving(BlocksCase):
    def test_below_the_share(self):
        self.begin((2, 18, 0, 0))
        self.assertEqual([self.ok("reserve"), self.ok("reserve")], [4, 5])
        self.no("full", "reserve")
        self.no("full", "reserve", by=2)
        for _ in range(18):
            self.ok("reserve", by=1)
        self.no("full", "reserve", by=1)
        self.assertEqual(self.blocks.free(), [])

    def test_above_the_share_of_0(self):
        self.begin((0, 15, 0, 0))
        self.assertEqual([self.ok("reserve") for _ in range(5)], [4, 5, 6, 7, 8])
        self.no("full", "reserve")
        self.assertEqual(self.ok("reserve", by=1), 9)
        self.no("full", "reserve")
        self.ok("unreserve", 6)
        self.assertEqual(self.ok("reserve", by=3), 6)
        self.no("full", "reserve", by=3)

    def test_above_the_share_when_others_are_short(self):
        self.begin((1, 9, 9, 0))
        self.assertEqual([self.ok("reserve"), self.ok("reserve")], [4, 5])
        self.no("full", "reserve")
        for _ in range(9):
            self.ok("reserve", by=1)
        self.no("full", "reserve")
        self.ok("unreserve", 6, by=1)
        self.assertEqual(self.ok("reserve", by=2), 6)

    def test_the_least_free_block_is_not_fresh(self):
        self.begin(image={0: words(4, 2), 4: words(6)})
        self.assertEqual([self.ok("reserve") for _ in range(2)], [5, 7])
        self.assertFalse(self.blocks.is_fresh(5))
        self.assertEqual(self.blocks.reserved(0), [5, 7])
        self.assertEqual(self.blocks.reserved(1), [])

    def test_others_have_more_than_these_shares(self):
        """A share can find no free block on a disk that was handed over with great forests of others."""
        image = {1: words(4, 2)}
        image.update({block: words(block + 1) for block in range(4, 23)})
        self.begin((20, 0, 0, 0), image)
        self.assertEqual(self.blocks.free(), [])
        self.no("full", "reserve")

    def test_unreserve(self):
        self.begin()
        block = self.filled(2)
        other = self.filled(2)
        for value in (0, 9, -1, 99, True, None, "4", (4,), [4]):
            self.no("held", "unreserve", value)
        self.no("held", "unreserve", block, by=1)
        self.ok("flush", block)
        self.no("busy", "unreserve", block)
        self.ok("alter", ((block, words(other)),))
        self.no("busy", "unreserve", block)
        self.do_all()
        self.no("owns", "unreserve", block)
        self.no("held", "unreserve", other)
        self.ok("alter", ((block, NOTHING),))
        self.assertIsNone(self.ok("unreserve", block))
        self.no("buffer", "words", block)
        self.assertEqual(self.blocks.reserved(0), [])
        self.assertEqual(self.blocks.free(), list(range(4, 24)))

    def test_unreserve_directly_behind_a_reserve_and_a_fill(self):
        self.begin()
        block = self.ok("reserve")
        self.ok("unreserve", block)
        self.assertEqual(self.ok("reserve"), block)
        self.ok("fill", block, 0)
        self.ok("unreserve", block)
        self.assertEqual(self.ok("reserve"), block)
        self.ok("fill", block, 3)

    def test_a_block_is_fresh_when_its_write_is_done(self):
        self.begin()
        block = self.filled(0, 1, 2, 3)
        self.ok("flush", block)
        self.assertFalse(self.blocks.is_fresh(block))
        self.assertTrue(self.blocks.do(-1))
        self.assertTrue(self.blocks.is_fresh(block))
        self.assertEqual(self.disk.words(block), words(1, 2, 3))
        self.assertFalse(self.blocks.do(0))
        self.ok("unreserve", block)
        self.assertEqual(self.ok("reserve"), block)
        self.assertFalse(self.blocks.is_fresh(block))


class Filling(BlocksCase):
    def test_fill(self):
        self.begin(image={0: words(9, 2)})
        block = self.ok("reserve")
        for value in (0, 9, 10, -1, 99, True, None, "4", (4,), [4]):
            self.no("held", "fill", value, 2)
        self.no("held", "fill", block, 2, by=1)
        self.no("held", "fill", 10, 77)
        for kind in (1, 4, -1, True, False, None, "own", (2,), [2], 2 ** 40):
            self.no("type", "fill", block, kind)
        self.assertIsNone(self.ok("fill", block, 3))
        self.no("buffer", "fill", block, 3)
        self.no("type", "fill", block, 1)

    def test_fill_of_a_block_whose_buffer_is_gone(self):
        self.begin()
        block = self.filled(2)
        self.flushed(block)
        self.ok("forget", block)
        self.no("buffer", "fill", block, 2)

    def test_fill_of_a_block_that_went_into_the_forest(self):
        self.begin()
        block, other = self.filled(2), self.filled(2)
        self.ok("alter", ((block, words(other)),))
        self.no("held", "fill", other, 2)


class Fetching(BlocksCase):
    def test_fetch(self):
        self.begin(image={0: words(9, 2), 9: words(10), 10: words(0, 0, 5), 1: words(12, 0)})
        for value in (1, 12, 4, -1, 24, True, False, None, "0", (0,), [0]):
            self.no("held", "fetch", value)
        self.assertEqual(self.ok("fetch", 10), "wait")
        self.assertEqual(self.disk.queue(), [("read", 10, 0)])
        self.assertEqual(self.ok("fetch", 10), "wait")
        self.assertEqual(self.disk.queue(), [("read", 10, 0)])
        self.no("buffer", "words", 10)
        self.assertTrue(self.blocks.do(0))
        self.assertEqual(self.ok("fetch", 10), "here")
        self.assertEqual(self.ok("words", 10), words(0, 0, 5))
        self.assertEqual(self.disk.queue(), [])
        self.no("buffer", "words", 10, by=1)

    def test_fetch_of_what_is_not_fresh(self):
        self.begin(image={4: words(1)})
        block = self.ok("reserve")
        self.no("new", "fetch", block)
        self.ok("fill", block, 2)
        self.assertEqual(self.ok("fetch", block), "here")

    def test_fetch_while_a_write_waits(self):
        self.begin(image={0: words(9, 2), 9: words(10)})
        self.fetched(9)
        self.ok("flush", 9)
        self.assertEqual(self.ok("fetch", 9), "here")
        self.disk.add(("write", 10, NOTHING, 0))
        self.no("busy", "fetch", 10)

    def test_a_read_that_is_done_when_its_block_has_left(self):
        self.begin(image={0: words(9, 2), 9: words(10)})
        self.fetched(9, 0)
        self.ok("fetch", 10)
        self.ok("alter", ((9, NOTHING),))
        self.do_all()
        self.no("buffer", "words", 10)
        self.no("held", "fetch", 10)
        self.assertEqual(self.blocks.memory_forest(0), {0: (None, 1), 9: (0, 2)})
        self.assertEqual(self.blocks.lasting_forest(0), {0: (None, 1), 9: (0, 2), 10: (9, 2)})

    def test_reads_of_two_environments(self):
        self.begin(image={0: words(9, 2), 1: words(12, 0), 12: words(7)})
        self.ok("fetch", 12, by=1)
        self.ok("fetch", 9)
        self.do_all()
        self.assertEqual(self.ok("words", 12, by=1), words(7))
        self.assertEqual(self.ok("words", 9), NOTHING)
        self.no("buffer", "words", 12)

    def test_words(self):
        self.begin()
        for value in (0, 4, -1, 24, True, False, None, "0", [0]):
            self.no("buffer", "words", value)


class Forgetting(BlocksCase):
    def test_forget(self):
        self.begin()
        for value in (0, 4, -1, 24, True, None, "0", [0]):
            self.no("buffer", "forget", value)
        block = self.filled(2)
        self.no("new", "forget", block)
        self.ok("flush", block)
        self.no("busy", "forget", block)
        self.do_all()
        self.ok("alter", ((block, words(0, 0, 1)),))
        self.no("changed", "forget", block)
        self.ok("alter", ((block, NOTHING),))
        self.assertIsNone(self.ok("forget", block))
        self.no("buffer", "forget", block)
        self.assertEqual(self.ok("fetch", block), "wait")

    def test_what_stands_below_a_forgotten_block_stays(self):
        self.begin()
        leaf = self.filled(0, 9)
        node = self.filled(3, leaf)
        self.flushed(leaf, node)
        before = self.blocks.memory_forest(0)
        self.ok("forget", node)
        self.ok("forget", leaf)
        self.assertEqual(self.blocks.memory_forest(0), before)
        self.no("owns", "unreserve", node)

    def test_lasts(self):
        self.begin()
        for value in (0, 4, -1, 24, True, None, "0", [0]):
            self.no("buffer", "lasts", value)
        block = self.filled(0)
        self.assertIs(self.ok("lasts", block), True)
        self.ok("flush", block)
        self.assertIs(self.ok("lasts", block), False)
        self.do_all()
        self.assertIs(self.ok("lasts", block), True)
        self.ok("alter", ((block, words(1)),))
        self.assertIs(self.ok("lasts", block), False)
        self.ok("flush", block)
        self.assertIs(self.ok("lasts", block), False)
        self.do_all()
        self.assertIs(self.ok("lasts", block), True)


class Registering(BlocksCase):
    def test_register(self):
        self.begin()
        for value in (None, 3, "own", [PAIR], ((), 0, 1, 0), (((), 0, 1, 4),), (((), 0, 9, 0),), (((), 0, 1, True),)):
            self.no("form", "register", value)
        self.assertEqual(self.ok("register", PAIR), 2)
        programs = [(((), 0, many, 0),) for many in range(1, 6)]
        self.assertEqual([self.ok("register", program) for program in programs[:4]], [4, 5, 6, 7])
        self.no("full", "register", programs[4])
        self.no("form", "register", (((), 0, 9, 0),))
        self.assertEqual(self.ok("register", programs[2]), 6)
        self.assertEqual(self.ok("register", MIXED), 3)
        self.assertEqual(self.ok("register", programs[4], by=1), 8)
        self.assertEqual(self.ok("register", programs[4]), 8)


class Forms(BlocksCase):
    def test_values_that_are_no_requests(self):
        self.begin()
        block = self.filled(2)
        for value in (
            None, 3, True, "reserve", [], ["reserve"], {}, (), ((),), (None,), (3,), (["reserve"],), ("",), ("take",),
            ("Reserve",), ("reserve", 4), ("unreserve",), ("unreserve", block, 0), ("fill", block),
            ("fill", block, 2, 2), ("fetch",), ("fetch", 0, 0), ("words",), ("words", block, 0), ("forget",),
            ("forget", block, 0), ("alter",), ("alter", (block, NOTHING), ()), ("flush",), ("flush", block, 0),
            ("lasts",), ("lasts", block, 0), ("register",), ("register", PAIR, 0), ("charged", 0), (("charged",),),
        ):
            before = self.seen()
            self.assertEqual(self.blocks.request(0, value), ("no", "form"), value)
            self.assertEqual(self.seen(), before)

    def test_a_program_that_was_started_without_types(self):
        blocks = Blocks(disk_from([words(4, 0)] + [NOTHING] * 23), [5, 5, 5, 5])
        self.assertEqual(blocks.lasting_forest(0), {0: (None, 1), 4: (0, 0)})
        self.assertEqual(new_types().count(), 4)


if __name__ == "__main__":
    unittest.main()
