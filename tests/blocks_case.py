"""What the tests of part blocks share."""

import unittest

from steadhold.blocks import Blocks
from steadhold.disk import disk_from
from steadhold.owning import Types

NOTHING = (0,) * 8
# Type 2 owns the blocks of words 0 and 1 as its own; type 3 owns word 0 as data and word 1 as type 2.
PAIR = (((), 0, 2, "own"),)
MIXED = (((), 0, 1, 0), ((), 1, 1, 2))


def words(*first):
    return tuple(first) + (0,) * (8 - len(first))


def new_types(many=24):
    types = Types(many)
    assert types.add(PAIR, 3) == 2
    assert types.add(MIXED, 3) == 3
    return types


class BlocksCase(unittest.TestCase):
    def begin(self, shares=(8, 0, 0, 0), image=None, many=24):
        """Blocks on a disk with an image: a dict from blocks to words."""
        table = [NOTHING] * many
        for block, told in (image or {}).items():
            table[block] = told
        self.types = new_types(many)
        self.blocks = Blocks(disk_from(table), list(shares), self.types)
        self.disk = self.blocks.disk

    def ask(self, *request, by=0):
        return self.blocks.request(by, request)

    def ok(self, *request, by=0):
        answer = self.ask(*request, by=by)
        self.assertEqual(answer[0], "ok", (request, answer))
        return answer[1]

    def no(self, word, *request, by=0):
        before = self.seen()
        self.assertEqual(self.ask(*request, by=by), ("no", word), request)
        self.assertEqual(self.seen(), before)

    def seen(self):
        """All that can be seen of the blocks."""
        every = range(-1, self.disk.blocks + 1)
        return [
            self.disk.image(), self.disk.queue(), [self.blocks.is_fresh(block) for block in every],
            [self.blocks.memory_forest(e) for e in range(4)], [self.blocks.charged(e) for e in range(4)],
            [self.blocks.reserved(e) for e in range(4)],
            [self.blocks.request(e, ("words", block)) for e in range(4) for block in every], self.types.programs(),
        ]

    def do_all(self):
        while self.blocks.do(0):
            pass

    def fetched(self, *blocks, by=0):
        for block in blocks:
            self.assertEqual(self.ok("fetch", block, by=by), "wait")
        self.do_all()

    def filled(self, kind, *told, by=0):
        """Reserves and fills a block, and gives it words; the block."""
        block = self.ok("reserve", by=by)
        self.ok("fill", block, kind, by=by)
        if told:
            self.ok("alter", ((block, words(*told)),), by=by)
        return block

    def flushed(self, *blocks, by=0):
        for block in blocks:
            self.ok("flush", block, by=by)
        self.do_all()
