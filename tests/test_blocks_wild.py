"""[28] to [35]: wild requests, answered as by a plain model; cuts at every moment leave forests apart."""

import random
import unittest

from blocks_model import Model, Wild

from steadhold.blocks import Blocks
from steadhold.disk import disk_from
from steadhold.owning import Types

# Words 0 and 1 are owned as own; word 0 as data and word 1 as type 2; word 2 guards a word 3 of type 2.
PROGRAMS = [
    (((), 0, 2, "own"),),
    (((), 0, 1, 0), ((), 1, 1, 2), (((2, 1, 1),), 3, 1, 2)),
    (((), 1, ("word", 0), 0),),
]


def new_types(many):
    types = Types(many)
    for program in PROGRAMS:
        assert types.add(program, 0) is not None
    return types


class WildBlocks(unittest.TestCase):
    def compare(self, blocks, model):
        for e in range(4):
            self.assertEqual(blocks.lasting_forest(e), model.lasting_forest(e))
            self.assertEqual(blocks.memory_forest(e), model.memory_forest(e))
            self.assertEqual(blocks.charged(e), model.charged(e))
            self.assertEqual(blocks.reserved(e), sorted(b for b in model.reserved_by if model.reserved_by[b] == e))
        self.assertEqual(blocks.free(), model.free())
        self.assertEqual([b for b in range(model.many) if blocks.is_fresh(b)], sorted(model.fresh))
        self.assertEqual(blocks.disk.queue(), model.queue)

    def check_cuts(self, blocks, model, draw):
        """Whatever writes are done, the lasting forests are forests apart, and free blocks are in none of them."""
        queue, free = blocks.disk.queue(), set(blocks.free())
        tries = [[1] * len(queue), [], *[[draw.randrange(2) for _ in queue] for _ in range(3)]]
        for choices in tries:
            disk = disk_from(blocks.disk.image())
            for operation in queue:
                disk.add(operation)
            disk.cut(choices)
            begun = Blocks(disk, model.shares, model.types)
            seen = set()
            for e in range(4):
                growth = begun._growth(e, disk.image())
                self.assertIsNone(growth[1])
                self.assertFalse(seen & set(growth[0]))
                seen |= set(growth[0])
                self.assertEqual(begun.memory_forest(e), growth[0])
                self.assertEqual(begun.reserved(e), [])
            self.assertFalse(seen & free)
            self.assertEqual([b for b in range(model.many) if begun.is_fresh(b)], sorted(seen))

    def play(self, seed, many, shares, units):
        types = new_types(many)
        model = Model(many, shares, types)
        blocks = Blocks(disk_from([(0,) * 8] * many), shares, types)
        wild = Wild(seed, model)
        draw = random.Random(seed + 1000)
        counts = {}
        for unit in range(units):
            e = draw.choice([0, 0, 0, 1])
            request = wild.request(e)
            answer = blocks.request(e, request)
            self.assertEqual(answer, model.request(e, request), (seed, unit, request))
            key = (request[0], answer[0] if answer[0] == "ok" else answer[1])
            counts[key] = counts.get(key, 0) + 1
            if draw.random() < (0.2, 0.5, 0.9)[unit // 100 % 3]:
                index = draw.randrange(-3, 9)
                self.assertEqual(blocks.do(index), model.do(index))
            if unit % 5 == 0:
                self.compare(blocks, model)
                self.check_cuts(blocks, model, draw)
            if draw.random() < 0.002:
                choices = [draw.randrange(-5, 6) for _ in range(draw.randrange(6))]
                blocks.disk.cut(choices)
                model.cut(choices)
                blocks = Blocks(disk_from(blocks.disk.image()), shares, types)
                self.compare(blocks, model)
        return counts

    def test_wild(self):
        total = {}
        for seed, many, shares in ((1, 24, [8, 4, 0, 0]), (2, 24, [0, 0, 0, 0]), (3, 24, [5, 5, 5, 5])):
            for key, count in self.play(seed, many, shares, 3000).items():
                total[key] = total.get(key, 0) + count
        expected = [
            ("reserve", "ok"), ("reserve", "full"), ("unreserve", "held"), ("unreserve", "busy"),
            ("unreserve", "owns"), ("unreserve", "ok"), ("fill", "held"), ("fill", "type"), ("fill", "buffer"),
            ("fetch", "held"), ("fetch", "new"), ("fetch", "ok"), ("forget", "buffer"), ("forget", "busy"),
            ("forget", "new"), ("forget", "changed"), ("forget", "ok"), ("alter", "ill"), ("alter", "twice"),
            ("alter", "types"), ("alter", "takes"), ("alter", "gives"), ("alter", "ok"), ("alter", "buffer"),
            ("flush", "buffer"), ("flush", "busy"), ("flush", "forest"), ("flush", "ok"), ("lasts", "ok"),
        ]
        for key in expected:
            self.assertGreater(total.get(key, 0), 0, key)


if __name__ == "__main__":
    unittest.main()
