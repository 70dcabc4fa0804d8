"""[33]: altering blocks."""

import unittest

from blocks_case import NOTHING, BlocksCase, words


class Forms(BlocksCase):
    def test_rows_of_a_wrong_form(self):
        self.begin()
        one, other = self.filled(2), self.filled(2)
        row = (one, NOTHING)
        for rows in (
            None, 3, (), [], row, [row], (row, (other, NOTHING), (0, NOTHING)), (row, row), (row, (one, words(1))),
            ((one,),), ((one, NOTHING, 0),), ([one, NOTHING],), ((one, list(NOTHING)),), ((one, NOTHING[:7]),),
            ((one, NOTHING + (0,)),), ((one, (0,) * 7 + (-1,)),), ((one, (0,) * 7 + (2 ** 32,)),),
            ((one, (0,) * 7 + (True,)),), ((one, (0,) * 7 + ("0",)),), ((one, None),), (row, None), (row, ()), "ab",
        ):
            self.no("form", "alter", rows)

    def test_blocks_without_buffers(self):
        self.begin(image={0: words(9, 2)})
        one = self.filled(2)
        for block in (0, 9, 1, 20, -1, 24, 99, True, False, None, "0", (one,), [one]):
            self.no("buffer", "alter", ((block, NOTHING),))
            self.no("buffer", "alter", ((one, NOTHING), (block, NOTHING)))
            self.no("buffer", "alter", ((block, NOTHING), (one, NOTHING)))
        self.no("buffer", "alter", ((one, NOTHING),), by=1)

    def test_true_is_not_the_block_1(self):
        self.begin()
        self.fetched(1, by=1)
        self.no("buffer", "alter", ((1, NOTHING), (True, NOTHING)), by=1)


class Words(BlocksCase):
    def test_one_and_two_rows(self):
        self.begin()
        one, other = self.filled(0), self.filled(2)
        self.assertIsNone(self.ok("alter", ((one, (1, 2, 3, 4, 5, 6, 7, 2 ** 32 - 1)),)))
        self.assertEqual(self.ok("words", one), (1, 2, 3, 4, 5, 6, 7, 2 ** 32 - 1))
        self.ok("alter", ((one, words(9)), (other, words(0, 0, 8))))
        self.assertEqual(self.ok("words", one), words(9))
        self.assertEqual(self.ok("words", other), words(0, 0, 8))
        self.assertEqual(self.disk.words(one), NOTHING)

    def test_what_comes_in_and_goes_out(self):
        self.begin()
        node, leaf, plain = self.filled(3), self.filled(2), self.filled(0, 5)
        self.ok("alter", ((node, words(plain, leaf)),))
        self.assertEqual(self.blocks.reserved(0), [node])
        forest = {0: (None, 1), node: (None, 3), plain: (node, 0), leaf: (node, 2)}
        self.assertEqual(self.blocks.memory_forest(0), forest)
        self.assertEqual(self.ok("words", plain), words(5))
        self.ok("alter", ((node, words(0, leaf)),))
        self.assertEqual(self.blocks.memory_forest(0), {0: (None, 1), node: (None, 3), leaf: (node, 2)})
        self.no("buffer", "words", plain)
        self.assertIn(plain, self.blocks.free())

    def test_ill_words(self):
        self.begin()
        node = self.filled(2)
        self.fetched(0)
        for told in ((node, 24), (3, 0), (0, 2 ** 32 - 1)):
            self.no("ill", "alter", ((node, words(*told)),))
        for told in ((node, 1), (node, 4), (24, 2), (3, 2)):
            self.no("ill", "alter", ((0, words(*told)),))
        self.no("ill", "alter", ((node, NOTHING), (0, words(node, 1))))
        self.ok("alter", ((0, words(0, 77)),))

    def test_twice(self):
        self.begin()
        one, other, leaf = self.filled(2), self.filled(2), self.filled(2)
        self.no("ill", "alter", ((one, words(leaf, leaf)),))
        self.no("twice", "alter", ((one, words(leaf)), (other, words(leaf))))
        self.ok("alter", ((one, words(leaf)),))
        self.no("twice", "alter", ((one, words(leaf)), (other, words(0, leaf))))

    def test_types(self):
        self.begin()
        one, other, leaf = self.filled(3), self.filled(2), self.filled(2)
        self.ok("alter", ((one, words(0, leaf)),))
        self.no("types", "alter", ((one, words(leaf)),))
        self.no("types", "alter", ((one, words(leaf)), (other, NOTHING)))
        self.ok("alter", ((one, NOTHING), (other, words(leaf))))


class Takes(BlocksCase):
    def test_only_reserved_and_filled_blocks_of_the_told_type(self):
        self.begin(image={1: words(20, 2), 0: words(19, 2)})
        node, leaf, empty = self.filled(3), self.filled(2), self.ok("reserve")
        foreign = self.ok("reserve", by=1)
        self.ok("fill", foreign, 2, by=1)
        for block in (empty, foreign, 20, 19, 23):
            self.no("takes", "alter", ((node, words(0, block)),))
        self.no("takes", "alter", ((node, words(leaf)),))
        self.ok("alter", ((node, words(0, leaf)),))
        other = self.filled(2)
        self.no("takes", "alter", ((other, words(leaf)),))

    def test_a_block_that_stays_is_not_taken(self):
        self.begin()
        leaf, node = self.filled(2), self.filled(2)
        self.ok("alter", ((node, words(leaf)),))
        self.ok("alter", ((node, words(0, leaf, 7)),))
        self.assertEqual(self.ok("words", node), words(0, leaf, 7))

    def test_a_move_with_all_below(self):
        self.begin()
        bottom, leaf, one, other = self.filled(2), self.filled(2), self.filled(2), self.filled(2)
        self.ok("alter", ((leaf, words(bottom)),))
        self.ok("alter", ((one, words(leaf)),))
        self.ok("alter", ((one, NOTHING), (other, words(0, leaf))))
        forest = {0: (None, 1), one: (None, 2), other: (None, 2), leaf: (other, 2), bottom: (leaf, 2)}
        self.assertEqual(self.blocks.memory_forest(0), forest)
        self.ok("alter", ((one, words(leaf)), (other, NOTHING)))
        self.assertEqual(self.blocks.memory_forest(0)[leaf], (one, 2))
        self.assertEqual(self.ok("words", bottom), NOTHING)

    def test_two_blocks_change_places(self):
        self.begin()
        a, b = self.filled(2), self.filled(2)
        one, other = self.filled(2, a), self.filled(2, b)
        self.ok("alter", ((one, words(b)), (other, words(a))))
        self.assertEqual(self.blocks.memory_forest(0)[a], (other, 2))
        self.assertEqual(self.blocks.memory_forest(0)[b], (one, 2))

    def test_itself(self):
        self.begin()
        one, other = self.filled(2), self.filled(2)
        self.no("takes", "alter", ((one, words(one)),))
        self.no("takes", "alter", ((one, words(other)), (other, words(one))))
        self.no("takes", "alter", ((one, words(other)), (other, NOTHING)))

    def test_a_block_below_which_one_of_the_rows_stands(self):
        self.begin()
        c = self.filled(2)
        b = self.filled(2, c)
        a = self.filled(2, b)
        top = self.filled(2, a)
        self.no("takes", "alter", ((c, words(a)), (top, NOTHING)))
        self.no("takes", "alter", ((b, words(c, a)), (top, NOTHING)))
        self.no("takes", "alter", ((c, words(b)), (a, NOTHING)))
        self.no("takes", "alter", ((c, words(top)),))

    def test_rings_of_three(self):
        """Each of three blocks would own the next one; the last step is refused whichever rows it is made by."""
        self.begin()
        a, b, c = self.filled(2), self.filled(2), self.filled(2)
        self.ok("alter", ((a, words(b)),))
        self.ok("alter", ((b, words(c)),))
        self.no("takes", "alter", ((c, words(a)),))
        self.no("takes", "alter", ((c, words(a)), (b, words(c, 0, 5))))
        self.no("takes", "alter", ((a, NOTHING), (c, words(a))))

    def test_a_reserved_block_that_owns_a_row(self):
        self.begin()
        low = self.filled(2)
        high = self.filled(2, low)
        node = self.filled(2)
        self.no("takes", "alter", ((node, words(high)), (low, words(0, 0, 1))))
        self.ok("alter", ((node, words(high)),))
        self.assertEqual(self.blocks.reserved(0), [node])

    def test_twice_comes_before_types_and_these_before_takes(self):
        self.begin()
        one, other, leaf = self.filled(3), self.filled(2), self.filled(2)
        self.ok("alter", ((one, words(0, leaf)),))
        self.no("twice", "alter", ((one, words(leaf)), (other, words(leaf, one))))
        self.no("types", "alter", ((one, words(leaf)), (other, words(one))))
        self.no("ill", "alter", ((one, words(leaf)), (other, words(leaf, 3))))
        self.no("takes", "alter", ((one, words(0, 0)), (other, words(one))))


class Gives(BlocksCase):
    def test_a_block_that_owns_something(self):
        self.begin()
        bottom = self.filled(2)
        leaf = self.filled(2, bottom)
        node = self.filled(2, leaf)
        self.no("gives", "alter", ((node, NOTHING),))
        self.ok("alter", ((leaf, NOTHING),))
        self.ok("alter", ((node, NOTHING),))
        self.assertEqual(self.blocks.memory_forest(0), {0: (None, 1), node: (None, 2)})
        self.no("buffer", "words", leaf)

    def test_a_block_of_the_rows(self):
        self.begin()
        leaf = self.filled(2)
        node = self.filled(2, leaf)
        self.no("gives", "alter", ((node, NOTHING), (leaf, words(0, 0, 3))))
        self.no("gives", "alter", ((leaf, NOTHING), (node, NOTHING)))
        self.ok("alter", ((node, words(leaf, 0, 1)), (leaf, words(0, 0, 3))))

    def test_takes_comes_before_gives(self):
        self.begin()
        bottom = self.filled(2)
        leaf = self.filled(2, bottom)
        node = self.filled(2, leaf)
        self.no("takes", "alter", ((node, words(20)),))
        self.no("gives", "alter", ((node, NOTHING),))

    def test_what_a_block_without_a_buffer_owns_counts(self):
        self.begin(image={0: words(9, 2), 9: words(10), 10: words(11)})
        self.fetched(9)
        self.no("gives", "alter", ((9, NOTHING),))
        self.fetched(10)
        self.ok("alter", ((10, NOTHING),))
        self.ok("alter", ((9, NOTHING),))
        self.assertEqual(self.blocks.charged(0), [9, 10, 11])

    def test_one_goes_while_another_comes(self):
        self.begin()
        old, new = self.filled(2), self.filled(2)
        node = self.filled(2, old)
        self.ok("alter", ((node, words(new)),))
        self.assertEqual(self.blocks.reserved(0), [node])
        self.assertIn(old, self.blocks.free())
        self.no("takes", "alter", ((node, words(old)),))


if __name__ == "__main__":
    unittest.main()
