"""[57] to [60]: pages of slots, writing to shared ones, forking and clearing."""

import random
import unittest

from unix_case import TOP, MachineCase

from steadhold.machines import Stack
from steadhold.memory import Clear, Fork, Grow, Memory, Read, Write


class MemoryCase(MachineCase):
    def begin(self, share=24, frames=32):
        super().begin(share, frames)
        self.memory = Memory(share)

    def grow(self, slot, many=1):
        for _ in range(many):
            value = self.run_machine(Grow(self.memory, slot))
        self.check_memory(self.memory)
        return value

    def read(self, slot, address):
        value = self.run_machine(Read(self.memory, slot, address))
        self.check_memory(self.memory)
        return value

    def write(self, slot, address, word):
        value = self.run_machine(Write(self.memory, slot, address, word))
        self.check_memory(self.memory)
        return value

    def fork(self, old, new):
        self.assertIsNone(self.run_machine(Fork(self.memory, old, new)))
        self.check_memory(self.memory)

    def clear(self, slot):
        self.assertIsNone(self.run_machine(Clear(self.memory, slot)))
        self.check_memory(self.memory)


class Growing(MemoryCase):
    def test_up_to_six_pages_and_once_more(self):
        self.begin()
        self.assertEqual([self.grow(2) for _ in range(7)], [8, 16, 24, 32, 40, 48, None])
        self.assertEqual(self.memory.pages(2), [0, 1, 2, 3, 4, 5])
        self.assertEqual(self.memory.pages(1), [])

    def test_requests(self):
        self.begin()
        self.assertEqual(self.requests_of(Grow(self.memory, 3)), ([("take",), ("map", 18, 0, "rw")], 8))
        self.assertEqual(self.requests_of(Grow(self.memory, 3)), ([("take",), ("map", 19, 1, "rw")], 16))

    def test_new_pages_have_zeros(self):
        self.begin()
        self.grow(0)
        for index in range(8):
            self.write(0, index, 5)
        self.clear(0)
        self.grow(1)
        self.assertEqual(self.memory.pages(1), [0])
        self.assertEqual([self.read(1, address) for address in range(8)], [0] * 8)

    def test_full(self):
        self.begin(share=2)
        self.assertEqual([self.grow(0), self.grow(1)], [8, 8])
        self.assertTrue(self.memory.is_full())
        self.assertEqual(self.requests_of(Grow(self.memory, 0)), ([], "full"))
        self.clear(1)
        self.assertEqual(self.grow(0), 16)

    def test_six_pages_come_before_full(self):
        self.begin(share=6)
        self.grow(0, 6)
        self.assertTrue(self.memory.is_full())
        self.assertEqual(self.requests_of(Grow(self.memory, 0)), ([], None))
        self.assertEqual(self.requests_of(Grow(self.memory, 1)), ([], "full"))

    def test_without_a_share(self):
        self.begin(share=0)
        self.assertTrue(self.memory.is_full())
        self.assertEqual(self.grow(0), "full")
        self.assertIsNone(self.write(0, 0, 1))

    def test_frames_that_are_no_pages_count(self):
        memory = Memory(2)
        self.assertFalse(memory.is_full())
        memory.note_taken()
        memory.note_taken()
        self.assertEqual((memory.held(), memory.is_full()), (2, True))
        memory.note_dropped()
        self.assertEqual((memory.held(), memory.is_full()), (1, False))


class Addresses(MemoryCase):
    def test_each_address(self):
        self.begin()
        self.grow(1, 6)
        for address in range(48):
            self.assertEqual(self.requests_of(Write(self.memory, 1, address, 100 + address)), (
                [("store", 6 + address // 8, address % 8, 100 + address)], True))
        for address in range(48):
            self.assertEqual(self.requests_of(Read(self.memory, 1, address)), (
                [("load", 6 + address // 8, address % 8)], 100 + address))

    def test_addresses_that_are_not_there(self):
        self.begin()
        for pages in range(3):
            for address in (8 * pages, 8 * pages + 1, 8 * pages + 8, 47 + 8 * pages, 48, 192, TOP):
                self.assertEqual(self.requests_of(Read(self.memory, 0, address)), ([], None))
                self.assertEqual(self.requests_of(Write(self.memory, 0, address, 1)), ([], None))
            self.grow(0)
            self.assertEqual(self.read(0, 8 * pages + 7), 0)
            self.assertIs(self.write(0, 8 * pages + 7, TOP), True)
            self.assertEqual(self.read(0, 8 * pages + 7), TOP)

    def test_other_slots_are_apart(self):
        self.begin()
        self.grow(0, 6)
        self.grow(1)
        self.write(0, 47, 3)
        self.write(1, 0, 4)
        self.assertEqual([self.read(0, 47), self.read(1, 0), self.read(0, 0), self.read(1, 7)], [3, 4, 0, 0])
        self.assertIsNone(self.read(0, 48))

    def test_returned_lists_are_new(self):
        self.begin()
        self.grow(0)
        self.memory.pages(0).append(9)
        self.assertEqual(self.memory.pages(0), [0])

    def test_slots_that_are_not_there(self):
        self.begin()
        self.grow(0, 6)
        self.assertEqual(self.memory.pages(4), [])
        for machine in (Read(self.memory, 4, 0), Write(self.memory, 4, 0, 1), Grow(self.memory, 4)):
            self.assertEqual(self.requests_of(machine), ([], None))


class Forking(MemoryCase):
    def test_without_pages(self):
        self.begin()
        self.assertEqual(self.requests_of(Fork(self.memory, 0, 3)), ([], None))
        self.assertEqual(self.memory.pages(3), [])

    def test_requests(self):
        self.begin()
        self.grow(1, 2)
        self.assertEqual(self.requests_of(Fork(self.memory, 1, 0)), (
            [("map", 6, 0, "r"), ("map", 0, 0, "r"), ("map", 7, 1, "r"), ("map", 1, 1, "r")], None))
        self.check_memory(self.memory)
        self.assertEqual(self.memory.pages(0), [0, 1])

    def test_six_pages_of_a_full_memory(self):
        self.begin(share=6)
        self.grow(0, 6)
        self.write(0, 45, 7)
        self.fork(0, 2)
        self.assertEqual(self.memory.held(), 6)
        self.assertEqual(self.read(2, 45), 7)

    def test_a_slot_that_shares_its_pages(self):
        self.begin()
        self.grow(0, 2)
        self.write(0, 3, 5)
        self.fork(0, 1)
        self.write(1, 9, 6)
        self.assertEqual(self.memory.pages(1), [0, 2])
        self.assertEqual(self.requests_of(Fork(self.memory, 1, 3)), (
            [("map", 6, 0, "r"), ("map", 18, 0, "r"), ("map", 7, 2, "r"), ("map", 19, 2, "r")], None))
        self.check_memory(self.memory)
        self.assertEqual([self.memory.users(frame) for frame in range(4)], [3, 1, 2, 0])
        self.assertEqual([self.read(3, 3), self.read(3, 9), self.read(0, 9)], [5, 6, 0])


class Writing(MemoryCase):
    def copying(self, page, frame):
        rows = [("take",), ("map", 31, frame, "rw")]
        for index in range(8):
            rows += [("load", page, index), ("store", 31, index, 10 + index)]
        return rows + [("unmap", 31), ("map", page, frame, "rw")]

    def shared(self, slots, share=24):
        """All slots share one page that has the words 10 to 17."""
        self.begin(share)
        self.grow(0)
        for index in range(8):
            self.write(0, index, 10 + index)
        for slot in range(1, slots):
            self.fork(0, slot)

    def test_shared_by_two(self):
        for writer, left in ((0, 6), (1, 0)):
            self.shared(2)
            asked, value = self.requests_of(Write(self.memory, writer, 5, 99))
            self.assertIs(value, True)
            self.assertEqual(asked, self.copying(6 * writer, 1) + [
                ("map", left, 0, "rw"), ("store", 6 * writer, 5, 99)])
            self.check_memory(self.memory)
            self.assertEqual([self.read(writer, 5), self.read(1 - writer, 5)], [99, 15])
            self.assertEqual([self.read(writer, 4), self.read(1 - writer, 4)], [14, 14])
            self.assertEqual(self.requests_of(Write(self.memory, 1 - writer, 5, 98))[0], [("store", left, 5, 98)])

    def test_shared_by_three_and_four(self):
        for slots in (3, 4):
            self.shared(slots)
            asked, value = self.requests_of(Write(self.memory, 2, 0, 99))
            self.assertIs(value, True)
            self.assertEqual(asked, self.copying(12, 1) + [("store", 12, 0, 99)])
            self.check_memory(self.memory)
            self.assertEqual(self.memory.users(0), slots - 1)
            self.write(0, 1, 98)
            self.assertEqual([[self.read(slot, at) for at in (0, 1)] for slot in range(slots)],
                             [[10, 98], [10, 11], [99, 11], [10, 11]][:slots])

    def test_full(self):
        self.shared(2, share=1)
        self.assertEqual(self.requests_of(Write(self.memory, 1, 5, 99)), ([], "full"))
        self.check_memory(self.memory)
        self.assertEqual([self.read(0, 5), self.read(1, 5)], [15, 15])
        self.assertEqual(self.requests_of(Write(self.memory, 1, 8, 99)), ([], None))
        self.clear(0)
        self.assertIs(self.write(1, 5, 99), True)

    def test_full_is_no_matter_for_an_own_page(self):
        self.begin(share=2)
        self.grow(0, 2)
        self.assertTrue(self.memory.is_full())
        self.assertIs(self.write(0, 15, 4), True)

    def test_other_pages_stay_shared(self):
        self.begin()
        self.grow(0, 3)
        self.fork(0, 1)
        self.write(1, 8, 1)
        self.assertEqual([self.memory.users(frame) for frame in self.memory.pages(0)], [2, 1, 2])
        self.assertEqual(self.memory.pages(1), [0, 3, 2])

    def test_by_a_stack(self):
        """One request in each step, and nothing behind the end."""
        self.shared(2)
        stack, steps = Stack(Write(self.memory, 1, 5, 99)), 0
        while stack.step(self.kernel, self.E):
            steps += 1
        self.assertEqual((steps, stack.value()), (22, True))


class Refusals(MemoryCase):
    """A kernel that gives fewer frames than the library counts on is answered as a full memory."""

    def begin(self, share=1):
        super().begin(share, frames=8)
        self.memory = Memory(share + 5)
        for at in range(8):
            self.kernel.request(3, ("take",))

    def test_growing(self):
        self.begin()
        self.assertEqual(self.run_machine(Grow(self.memory, 0)), 8)
        self.assertEqual(self.requests_of(Grow(self.memory, 0)), ([("take",)], "full"))
        self.assertEqual((self.memory.held(), self.memory.pages(0)), (1, [7]))

    def test_writing(self):
        self.begin()
        self.run_machine(Grow(self.memory, 0))
        self.run_machine(Fork(self.memory, 0, 1))
        self.assertEqual(self.requests_of(Write(self.memory, 1, 5, 99)), ([("take",)], "full"))
        self.assertEqual((self.memory.held(), self.memory.users(7)), (1, 2))


class Clearing(MemoryCase):
    def test_without_pages(self):
        self.begin()
        self.assertEqual(self.requests_of(Clear(self.memory, 0)), ([], None))

    def test_own_pages(self):
        self.begin()
        self.grow(1, 3)
        self.assertEqual(self.requests_of(Clear(self.memory, 1)), (
            [("unmap", 6), ("unmap", 7), ("unmap", 8), ("drop", 0), ("drop", 1), ("drop", 2)], None))
        self.check_memory(self.memory)
        self.assertEqual(self.memory.pages(1), [])

    def test_shared_with_one_and_with_several(self):
        self.begin()
        self.grow(0, 3)
        self.fork(0, 1)
        self.write(1, 16, 1)
        self.write(0, 8, 2)
        self.fork(1, 3)
        self.assertEqual((self.memory.pages(0), self.memory.pages(1)), ([0, 4, 2], [0, 1, 3]))
        # Of slot 0 the first page is shared with two, the others are its own.
        self.assertEqual(self.requests_of(Clear(self.memory, 0)), (
            [("unmap", 0), ("unmap", 1), ("unmap", 2), ("drop", 4), ("drop", 2)], None))
        self.check_memory(self.memory)
        self.assertEqual(self.requests_of(Clear(self.memory, 1)), (
            [("unmap", 6), ("unmap", 7), ("unmap", 8)]
            + [("map", 18, 0, "rw"), ("map", 19, 1, "rw"), ("map", 20, 3, "rw")], None))
        self.check_memory(self.memory)
        self.assertEqual([self.read(3, 16), self.read(3, 8), self.memory.held()], [1, 0, 3])
        self.clear(3)
        self.assertEqual(self.memory.held(), 0)

    def test_some_of_each(self):
        self.begin()
        self.grow(2, 2)
        self.fork(2, 0)
        self.grow(2)
        self.write(2, 0, 5)
        self.assertEqual((self.memory.pages(2), self.memory.pages(0)), ([3, 1, 2], [0, 1]))
        self.assertEqual(self.requests_of(Clear(self.memory, 2)), (
            [("unmap", 12), ("unmap", 13), ("unmap", 14), ("drop", 3), ("map", 1, 1, "rw"), ("drop", 2)], None))
        self.check_memory(self.memory)


class Wild(MemoryCase):
    """Against lists of words, as the plain Unix has them."""

    def test_against_lists(self):
        for seed in range(30):
            draw = random.Random(seed)
            self.begin(share=draw.choice([1, 3, 6, 12, 24]))
            model = [[] for _ in range(4)]
            for _ in range(150):
                self.step(draw, model)

    def step(self, draw, model):
        slot, other = draw.sample(range(4), 2)
        kind = draw.choice(["grow", "grow", "read", "write", "write", "write", "fork", "clear"])
        is_full = self.memory.is_full()
        words = model[slot]
        address = draw.choice([draw.randrange(50), draw.randrange(max(1, len(words)))])
        if kind == "grow":
            wanted = None if len(words) == 48 else "full" if is_full else len(words) + 8
            self.assertEqual(self.grow(slot), wanted)
            if wanted not in (None, "full"):
                words.extend([0] * 8)
        elif kind == "write":
            word = draw.randrange(2 ** 32)
            pages = self.memory.pages(slot)
            is_own = address < len(words) and self.memory.users(pages[address // 8]) == 1
            wanted = None if address >= len(words) else True if is_own or not is_full else "full"
            self.assertEqual(self.write(slot, address, word), wanted)
            if wanted is True:
                words[address] = word
        elif kind == "fork" and not model[other]:
            self.fork(slot, other)
            model[other] = list(words)
        elif kind == "clear" and draw.random() < 0.5:
            self.clear(slot)
            model[slot] = []
        for slot, words in enumerate(model):
            self.assertEqual(len(self.memory.pages(slot)) * 8, len(words))
        slot = draw.randrange(4)
        self.assertEqual([self.read(slot, at) for at in range(0, 49, 5)],
                         [model[slot][at] if at < len(model[slot]) else None for at in range(0, 49, 5)])


if __name__ == "__main__":
    unittest.main()
