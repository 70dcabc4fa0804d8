"""[61] and [62]: pipes of up to 8 words, in frames of their own."""

import random
import unittest

from unix_case import TOP, MachineCase

from steadhold.memory import Clear, Grow, Memory
from steadhold.pipes import End, Make, Pipes, Put, Take


class PipesCase(MachineCase):
    def begin(self, share=24):
        super().begin(share)
        self.memory = Memory(share)
        self.pipes = Pipes(self.memory)

    def do(self, machine, *parts):
        value = self.run_machine(machine(self.pipes, *parts))
        self.check_memory(self.memory, self.pipes)
        return value

    def words_of(self, pipe):
        return [self.kernel.pages.load(self.E, 24 + pipe, at) for at in range(8)]


class Making(PipesCase):
    def test_requests(self):
        self.begin()
        self.assertFalse(self.pipes.is_there(0))
        self.assertEqual(self.requests_of(Make(self.pipes)), ([("take",), ("map", 24, 0, "rw")], 0))
        self.assertEqual(self.requests_of(Make(self.pipes)), ([("take",), ("map", 25, 1, "rw")], 1))
        self.assertEqual([self.pipes.is_there(pipe) for pipe in range(4)], [True, True, False, False])
        self.assertEqual((self.pipes.size(0), self.memory.held()), (0, 2))

    def test_a_fifth_one(self):
        self.begin()
        self.assertEqual([self.do(Make) for _ in range(5)], [0, 1, 2, 3, None])
        self.assertEqual(self.requests_of(Make(self.pipes)), ([], None))

    def test_a_full_memory(self):
        self.begin(share=3)
        self.run_machine(Grow(self.memory, 0))
        self.assertEqual([self.do(Make), self.do(Make)], [0, 1])
        self.assertEqual(self.requests_of(Make(self.pipes)), ([], None))
        self.assertEqual(self.run_machine(Grow(self.memory, 0)), "full")
        self.run_machine(Clear(self.memory, 0))
        self.assertEqual(self.do(Make), 2)

    def test_ending_and_making_again(self):
        self.begin(share=4)
        for _ in range(4):
            self.do(Make)
        self.assertEqual(self.requests_of(End(self.pipes, 2)), ([("unmap", 26), ("drop", 2)], None))
        self.check_memory(self.memory, self.pipes)
        self.assertFalse(self.pipes.is_there(2))
        self.assertIsNone(self.do(End, 1))
        self.assertEqual(self.memory.held(), 2)
        self.assertEqual([self.do(Make), self.do(Make), self.do(Make)], [1, 2, None])

    def test_a_pipe_that_is_made_again_is_empty(self):
        self.begin()
        self.do(Make)
        for word in range(5):
            self.do(Put, 0, 9)
        self.do(Take, 0)
        self.do(End, 0)
        self.assertEqual(self.pipes.size(0), 0)
        self.assertEqual(self.do(Make), 0)
        self.assertEqual((self.pipes.size(0), self.words_of(0)), (0, [0] * 8))
        self.assertEqual(self.requests_of(Put(self.pipes, 0, 7))[0], [("store", 24, 0, 7)])

    def test_a_kernel_that_refuses(self):
        self.begin(share=0)
        self.memory = Memory(3)
        self.pipes = Pipes(self.memory)
        for _ in range(32):
            self.kernel.request(3, ("take",))
        self.assertEqual(self.requests_of(Make(self.pipes)), ([("take",)], None))
        self.assertEqual((self.memory.held(), self.pipes.is_there(0)), (0, False))

    def test_numbers_that_are_no_pipes(self):
        self.begin()
        self.do(Make)
        for pipe in (1, 3, 4, 99):
            self.assertFalse(self.pipes.is_there(pipe))
            self.assertEqual(self.pipes.size(pipe), 0)
            self.assertEqual(self.requests_of(Put(self.pipes, pipe, 5)), ([], False))
            self.assertEqual(self.requests_of(Take(self.pipes, pipe)), ([], None))
            self.assertEqual(self.requests_of(End(self.pipes, pipe)), ([], None))
        self.check_memory(self.memory, self.pipes)


class Words(PipesCase):
    def test_places(self):
        """The head goes round all eight places."""
        self.begin()
        self.do(Make)
        self.do(Make)
        for head in range(17):
            for count in range(8):
                self.assertEqual(self.requests_of(Put(self.pipes, 1, 100 * head + count)), (
                    [("store", 25, (head + count) % 8, 100 * head + count)], True))
                self.assertEqual(self.pipes.size(1), count + 1)
            self.assertEqual(self.requests_of(Put(self.pipes, 1, 5)), ([], False))
            self.assertEqual([self.words_of(1)[(head + count) % 8] for count in range(8)],
                             [100 * head + count for count in range(8)])
            for count in range(8):
                self.assertEqual(self.requests_of(Take(self.pipes, 1)), (
                    [("load", 25, (head + count) % 8)], 100 * head + count))
            self.assertEqual(self.requests_of(Take(self.pipes, 1)), ([], None))
            self.do(Put, 1, 1)
            self.do(Take, 1)
        self.assertEqual(self.pipes.size(0), 0)

    def test_great_and_small_words(self):
        self.begin()
        self.do(Make)
        for word in (TOP, 0, 1):
            self.assertIs(self.do(Put, 0, word), True)
        self.assertEqual([self.do(Take, 0) for _ in range(4)], [TOP, 0, 1, None])

    def test_against_lists(self):
        for seed in range(20):
            draw = random.Random(seed)
            share = draw.choice([1, 2, 3, 4, 9])
            self.begin(share)
            model = {}
            for _ in range(200):
                self.step(draw, model, share)
                self.assertEqual([self.pipes.size(pipe) for pipe in range(4)],
                                 [len(model.get(pipe, [])) for pipe in range(4)])

    def step(self, draw, model, share):
        pipe = draw.choice(sorted(model) or [0])
        kind = draw.choice(["make", "put", "put", "put", "take", "take", "end"])
        if kind == "make":
            free = [at for at in range(4) if at not in model]
            wanted = free[0] if free and len(model) < share else None
            self.assertEqual(self.do(Make), wanted)
            if wanted is not None:
                model[wanted] = []
        elif kind == "put" and pipe in model:
            word = draw.randrange(2 ** 32)
            self.assertIs(self.do(Put, pipe, word), len(model[pipe]) < 8)
            model[pipe] = (model[pipe] + [word])[:8]
        elif kind == "take" and pipe in model:
            self.assertEqual(self.do(Take, pipe), model[pipe].pop(0) if model[pipe] else None)
        elif kind == "end" and pipe in model and draw.random() < 0.2:
            self.do(End, pipe)
            del model[pipe]


if __name__ == "__main__":
    unittest.main()
