"""[65] to [67]: turns; calls of processes, memory and pipes."""

import unittest

from calls_case import TurnCase
from unix_case import TOP, process_of

from steadhold.calls import Turn
from steadhold.machines import Stack
from steadhold.processes import Opening


class Instructions(TurnCase):
    def test_plain_ones(self):
        registers = {0: 1, 1: 5, 2: 9, 3: TOP}
        for instruction, behind in (
            (("set", 4, 7), (1, 5, 9, TOP, 7, 0)),
            (("copy", 5, 2), (1, 5, 9, TOP, 0, 9)),
            (("add", 0, 3, 1), (4, 5, 9, TOP, 0, 0)),
            (("sub", 0, 1, 2), (TOP - 3, 5, 9, TOP, 0, 0)),
            (("less", 4, 1, 2), (1, 5, 9, TOP, 1, 0)),
            (("less", 0, 2, 1), (0, 5, 9, TOP, 0, 0)),
        ):
            self.assertEqual(self.turn(instruction, registers), (1, instruction[0], behind))
            self.assertEqual(self.asked, [("pass",)])

    def test_places(self):
        for instruction, word, place in (
            (("jump", 5), 0, 5), (("if", 2, 5), 0, 1), (("if", 2, 5), 3, 5), (("jump", 600), 0, 600), (("jump", 0), 0, 0),
        ):
            self.assertEqual(self.turn(instruction, {2: word}), (1, instruction[0], (0, 0, word, 0, 0, 0)))
            self.assertEqual(self.one.place, place)

    def test_behind_the_end_of_the_program(self):
        for place in (1, 2, 600):
            self.begin()
            self.one.program, self.one.place, self.one.registers = (("call", "who"),), place, [4, 3, 2, 1, 0, 9]
            self.assertEqual(self.run_machine(Turn(self.unix, 0)), (1, "exit", (4, 3, 2, 1, 0, 9)))
            self.assertIsNone(self.table.at(0))
            self.assertEqual(self.one.code, 3)

    def test_registers_of_a_row_do_not_change(self):
        row = self.turn(("set", 1, 5))
        self.turn(("set", 1, 6))
        self.assertEqual(row, (1, "set", (0, 5, 0, 0, 0, 0)))

    def test_by_a_stack(self):
        self.one.program = (("call", "grow"),)
        stack = Stack(Turn(self.unix, 0))
        self.assertEqual([stack.step(self.kernel, self.E) for _ in range(4)], [True, True, True, False])
        self.assertEqual(stack.value(), (1, "grow", (1, 8, 0, 0, 0, 0)))
        self.one.program, self.one.place = (("set", 0, 9),), 0
        stack = Stack(Turn(self.unix, 0))
        self.assertIs(stack.step(self.kernel, self.E), True)
        self.assertTrue(stack.ended())


class LoadsAndStores(TurnCase):
    def test_words(self):
        self.grow(0, 2)
        self.assertEqual(self.turn(("store", 1, 2), {1: 9, 2: 55}), (1, "store", (0, 9, 55, 0, 0, 0)))
        self.assertEqual(self.asked_behind(), [("store", 1, 1, 55)])
        self.assertEqual(self.turn(("load", 3, 1), {1: 9, 3: 2}), (1, "load", (0, 9, 0, 55, 0, 0)))
        self.assertEqual(self.asked_behind(), [("load", 1, 1)])
        self.assertEqual(self.turn(("load", 1, 1), {1: 9}), (1, "load", (0, 55, 0, 0, 0, 0)))
        self.assertEqual(self.turn(("store", 1, 1), {1: 15}), (1, "store", (0, 15, 0, 0, 0, 0)))
        self.assertEqual(self.read_memory(0, 15), 15)

    def test_addresses_that_are_not_there(self):
        for instruction, pages, address in (
            (("load", 3, 1), 0, 0), (("store", 1, 3), 0, 0), (("load", 3, 1), 2, 16), (("store", 1, 3), 2, 16),
            (("load", 3, 1), 6, 48), (("store", 1, 3), 6, TOP),
        ):
            self.begin()
            self.grow(0, pages)
            self.one.ends[2] = self.table.add(Opening("write", None, (5,), 0))
            row = self.turn(instruction, {1: address, 3: 4})
            self.assertEqual(row, (1, instruction[0], (0, address, 0, 4, 0, 0)))
            self.assertEqual((self.one.code, self.one.ends, self.table.at(0)), (1, {}, None))
            self.assertEqual(self.unix.memory.held(), 0)
            self.assertIsNone(self.table.opening(1))

    def test_a_full_memory(self):
        self.begin(share=1)
        self.grow()
        child = self.fork()
        self.assertEqual(self.turn(("load", 3, 1), {1: 5}, child), (2, "load", (0, 5, 0, 0, 0, 0)))
        self.assertEqual(self.turn(("store", 1, 3), {1: 5, 3: 8}, child), (2, "full", (0, 5, 0, 8, 0, 0)))
        self.assertEqual((self.table.at(child).code, self.unix.memory.pages(child)), (2, []))
        # Now the page is the parent's alone.
        self.assertEqual(self.turn(("store", 1, 3), {1: 5, 3: 8}), (1, "store", (0, 5, 0, 8, 0, 0)))
        self.ok("wait", r1=2, r2=2)

    def test_a_missing_address_of_a_full_memory(self):
        self.begin(share=1)
        self.grow()
        child = self.fork()
        self.assertEqual(self.turn(("store", 1, 3), {1: 8}, child), (2, "store", (0, 8, 0, 0, 0, 0)))
        self.assertEqual(self.table.at(child).code, 1)

    def test_a_store_to_a_shared_page(self):
        self.grow()
        child = self.fork()
        self.turn(("store", 1, 3), {1: 5, 3: 8}, child)
        self.assertEqual([self.read_memory(0, 5), self.read_memory(child, 5)], [0, 8])
        self.assertEqual(self.asked_behind()[0], ("take",))


class Forks(TurnCase):
    def test_what_the_child_has(self):
        self.grow(0, 2)
        self.turn(("store", 1, 2), {1: 9, 2: 4})
        self.one.ends = {1: self.table.add(Opening("read", None, (5,), 3))}
        self.ok("fork", r1=2)
        child = self.table.at(1)
        self.assertEqual((child.number, child.parent, child.place, child.code), (2, 1, 1, None))
        self.assertIs(child.program, self.one.program)
        self.assertEqual(child.registers, [1, 0, 72, 73, 74, 75])
        self.assertEqual((child.ends, self.table.users(1)), ({1: 1}, 2))
        self.assertEqual(self.unix.memory.pages(1), self.unix.memory.pages(0))
        self.assertEqual(self.asked_behind(), [
            ("map", 0, 0, "r"), ("map", 6, 0, "r"), ("map", 1, 1, "r"), ("map", 7, 1, "r")])
        child.registers[5], child.ends[3] = 1, 1
        self.assertEqual((self.one.registers[5], self.one.ends), (75, {1: 1}))

    def test_no_slot_left(self):
        self.assertEqual([self.fork() for _ in range(3)], [1, 2, 3])
        self.no("fork")
        self.no("fork", slot=3)
        self.table.remove(2)
        self.ok("fork", slot=1, r1=5)
        self.assertEqual((self.table.at(2).number, self.table.at(2).parent), (5, 2))

    def test_a_full_memory_is_no_matter(self):
        self.begin(share=2)
        self.grow(0, 2)
        self.ok("fork", r1=2)


class Ends(TurnCase):
    def test_exit(self):
        for code in (0, 3, TOP):
            self.begin()
            self.assertEqual(self.call("exit", code), (77, code, 72, 73, 74, 75))
            self.assertIsNone(self.table.at(0))
            self.assertEqual(self.one.code, code)
            self.assertEqual(self.asked, [("pass",)])

    def test_ends_are_closed_ascending_then_the_memory_is_cleared(self):
        self.grow(0, 2)
        self.ok("pipe", r1=0, r2=1)
        self.ok("pipe", r1=2, r2=3)
        self.ok("move", 2, 1)
        self.ok("move", 0, 2)
        self.ok("move", 3, 0)
        self.ok("close", 1)
        # The end 0 alone leads to the second pipe, the end 2 alone to the first one.
        self.call("exit", 1)
        self.assertEqual(self.asked_behind(), [
            ("unmap", 25), ("drop", 3), ("unmap", 24), ("drop", 2), ("unmap", 0), ("unmap", 1), ("drop", 0), ("drop", 1)])
        self.assertEqual(self.unix.memory.held(), 0)

    def test_a_child_keeps_its_slot(self):
        child = self.fork()
        self.call("exit", 9, slot=child)
        self.assertEqual(self.table.at(child).code, 9)
        self.assertEqual(self.table.least_slot(), 2)

    def test_children_whose_parent_is_over(self):
        child = self.fork()
        grandchild = self.fork(child)
        other = self.fork(child)
        self.call("exit", 5, slot=other)
        self.call("exit", 6, slot=child)
        self.assertIsNone(self.table.at(other))
        self.ok("who", slot=grandchild, r1=3, r2=0)
        self.no("wait", slot=grandchild)
        self.call("exit", 7, slot=grandchild)
        self.assertIsNone(self.table.at(grandchild))
        self.ok("wait", r1=2, r2=6)
        self.no("wait")


class Waits(TurnCase):
    def test_without_children(self):
        self.no("wait")

    def test_with_several_children(self):
        slots = [self.fork() for _ in range(3)]
        self.waits("wait")
        self.call("exit", 30, slot=slots[2])
        self.call("exit", 10, slot=slots[0])
        self.ok("wait", r1=2, r2=10)
        self.assertIsNone(self.table.at(slots[0]))
        self.ok("wait", r1=4, r2=30)
        self.waits("wait")
        self.call("exit", TOP, slot=slots[1])
        self.ok("wait", r1=3, r2=TOP)
        self.no("wait")

    def test_numbers_and_not_slots(self):
        first, second = self.fork(), self.fork()
        self.call("exit", 1, slot=first)
        self.ok("wait", r1=2, r2=1)
        self.assertEqual(self.fork(), first)
        self.call("exit", 4, slot=first)
        self.call("exit", 3, slot=second)
        self.ok("wait", r1=3, r2=3)
        self.ok("wait", r1=4, r2=4)

    def test_only_own_children(self):
        child = self.fork()
        grandchild = self.fork(child)
        self.call("exit", 1, slot=grandchild)
        self.waits("wait")
        self.ok("wait", slot=child, r1=3, r2=1)

    def test_who(self):
        self.ok("who", r1=1, r2=0)
        self.ok("who", slot=self.fork(), r1=2, r2=1)


class Pipes(TurnCase):
    def test_pipe(self):
        self.ok("pipe", r1=0, r2=1)
        self.assertEqual(self.asked_behind(), [("take",), ("map", 24, 0, "rw")])
        outlet, inlet = self.table.opening(self.one.ends[0]), self.table.opening(self.one.ends[1])
        self.assertEqual((outlet.kind, outlet.pipe, inlet.kind, inlet.pipe), ("outlet", 0, "inlet", 0))

    def test_least_free_ends(self):
        self.one.ends[1] = self.table.add(Opening("read", None, (5,), 0))
        self.ok("pipe", r1=0, r2=2)
        self.no("pipe")
        self.ok("close", 1)
        self.ok("pipe", r1=1, r2=3)

    def test_one_free_end(self):
        for end in range(3):
            self.one.ends[end] = self.table.add(Opening("read", None, (5,), 0))
        self.no("pipe")
        self.assertEqual(self.asked, [("pass",)])

    def test_no_pipe_left(self):
        self.ok("pipe", r1=0, r2=1)
        self.ok("pipe", r1=2, r2=3)
        other = process_of(self.table, 1)
        self.ok("pipe", slot=1, r1=0, r2=1)
        self.ok("pipe", slot=1, r1=2, r2=3)
        process_of(self.table, 2)
        self.no("pipe", slot=2)
        self.ok("close", 0, slot=1)
        self.no("pipe", slot=2)
        self.ok("close", 1, slot=1)
        self.ok("pipe", slot=2, r1=0, r2=1)
        self.assertEqual(self.table.opening(self.table.at(2).ends[0]).pipe, 2)
        self.assertEqual(sorted(other.ends), [2, 3])

    def test_a_full_memory(self):
        self.begin(share=1)
        self.grow()
        self.no("pipe")

    def test_words(self):
        self.ok("pipe", r1=0, r2=1)
        self.waits("read", 0)
        for word in range(8):
            self.ok("write", 1, word)
        self.waits("write", 1, 8)
        self.ok("read", 0, r1=0)
        self.ok("write", 1, TOP)
        for word in [1, 2, 3, 4, 5, 6, 7, TOP]:
            self.ok("read", 0, r1=word)
        self.waits("read", 0)

    def test_wrong_ends(self):
        self.ok("pipe", r1=0, r2=1)
        for end in (1, 2, 3, 4, TOP):
            self.no("read", end)
        for end in (0, 2, 3, 4, TOP):
            self.no("write", end, 5)

    def test_the_other_side_is_closed(self):
        self.ok("pipe", r1=0, r2=1)
        self.ok("write", 1, 5)
        self.ok("close", 1)
        self.ok("read", 0, r1=5)
        self.no("read", 0)
        self.ok("pipe", r1=1, r2=2)
        self.ok("close", 1)
        self.no("write", 2, 5)
        self.assertEqual(self.asked, [("pass",)])

    def test_the_outlet_of_a_full_pipe_is_closed(self):
        self.ok("pipe", r1=0, r2=1)
        for word in range(8):
            self.ok("write", 1, word)
        self.ok("close", 0)
        self.no("write", 1, 8)

    def test_ends_of_several_processes_lead_to_one_opening(self):
        self.ok("pipe", r1=0, r2=1)
        child = self.fork()
        self.ok("close", 1)
        self.ok("write", 1, 5, slot=child)
        self.ok("read", 0, r1=5)
        self.waits("read", 0)
        self.ok("close", 1, slot=child)
        self.no("read", 0)
        self.ok("close", 0)
        self.assertEqual(self.asked, [("pass",)])
        self.call("exit", 0, slot=child)
        self.assertEqual(self.asked_behind(), [("unmap", 24), ("drop", 0)])
        self.assertFalse(self.unix.pipes.is_there(0))


class ClosingAndMoving(TurnCase):
    def setUp(self):
        super().setUp()
        self.ok("pipe", r1=0, r2=1)

    def test_close(self):
        for end in (2, 3, 4, TOP):
            self.no("close", end)
        self.ok("close", 0)
        self.assertEqual(self.asked, [("pass",)])
        self.no("close", 0)
        self.ok("close", 1)
        self.assertEqual(self.asked_behind(), [("unmap", 24), ("drop", 0)])
        self.assertEqual((self.one.ends, self.unix.memory.held()), ({}, 0))

    def test_move_to_a_free_number(self):
        outlet, inlet = self.one.ends[0], self.one.ends[1]
        self.ok("move", 0, 3)
        self.assertEqual(self.one.ends, {1: inlet, 3: outlet})
        self.assertEqual(self.table.users(outlet), 1)

    def test_move_onto_itself(self):
        before = dict(self.one.ends)
        self.ok("move", 0, 0)
        self.ok("move", 1, 1)
        self.assertEqual(self.one.ends, before)

    def test_move_onto_an_open_end(self):
        inlet = self.one.ends[1]
        self.ok("move", 1, 0)
        self.assertEqual(self.one.ends, {0: inlet})
        self.assertTrue(self.unix.pipes.is_there(0))
        self.no("write", 0, 4)

    def test_a_pipe_goes_by_a_move(self):
        self.ok("close", 0)
        self.one.ends[2] = self.table.add(Opening("read", None, (5,), 0))
        self.ok("move", 2, 1)
        self.assertEqual(self.asked_behind(), [("unmap", 24), ("drop", 0)])
        self.assertEqual(sorted(self.one.ends), [1])
        self.assertEqual(self.table.opening(self.one.ends[1]).kind, "read")

    def test_refused(self):
        for end, to in ((2, 0), (2, 2), (4, 0), (TOP, 1), (0, 4), (1, TOP), (4, 4)):
            self.no("move", end, to)

    def test_two_ends_that_lead_to_one_opening(self):
        self.one.ends[2] = self.one.ends[0]
        self.ok("move", 0, 2)
        self.assertEqual(sorted(self.one.ends), [1, 2])
        self.assertEqual(self.table.opening(self.one.ends[2]).kind, "outlet")


class Growing(TurnCase):
    def test_seven_pages(self):
        for many in range(8, 49, 8):
            self.ok("grow", r1=many)
        self.no("grow")
        self.assertEqual(self.asked, [("pass",)])

    def test_a_full_memory(self):
        self.begin(share=2)
        self.ok("pipe", r1=0, r2=1)
        self.ok("grow", r1=8)
        self.no("grow")


if __name__ == "__main__":
    unittest.main()
