"""[63] and [64]: processes in their slots, ends, and the openings to which they lead."""

import unittest

from unix_case import process_of

from steadhold.errors import NotValid
from steadhold.processes import ENDS, SLOTS, Opening, Process, Table


class Fields(unittest.TestCase):
    def test_numbers(self):
        self.assertEqual((SLOTS, ENDS), (4, 4))

    def test_process(self):
        program = (("call", "who"),)
        process = Process(3, 2, program)
        self.assertEqual((process.number, process.parent, process.program, process.place), (3, 2, program, 0))
        self.assertEqual((process.registers, process.ends, process.code), ([0] * 6, {}, None))
        other = Process(4, 2, program)
        other.registers[0] = 1
        other.ends[0] = 1
        self.assertEqual((process.registers, process.ends), ([0] * 6, {}))

    def test_opening(self):
        opening = Opening("write", None, (5, 6), 7)
        self.assertEqual((opening.kind, opening.pipe, opening.path, opening.offset), ("write", None, (5, 6), 7))
        opening = Opening("inlet", 3, None, 0)
        self.assertEqual((opening.kind, opening.pipe, opening.path, opening.offset), ("inlet", 3, None, 0))


class Slots(unittest.TestCase):
    def test_least_slot(self):
        table = Table()
        for slot in range(4):
            self.assertIsNone(table.at(slot))
            self.assertEqual(table.least_slot(), slot)
            process = process_of(table, slot)
            self.assertIs(table.at(slot), process)
        self.assertIsNone(table.least_slot())
        table.remove(2)
        table.remove(1)
        self.assertEqual(table.least_slot(), 1)
        self.assertIsNone(table.at(2))
        self.assertIsNotNone(table.at(3))

    def test_numbers_go_on(self):
        table = Table()
        self.assertEqual([table.next_number() for _ in range(3)], [1, 2, 3])
        process_of(table, 0)
        table.remove(0)
        self.assertEqual(table.next_number(), 5)

    def test_slots_that_are_not_there(self):
        table = Table()
        for slot in (-1, 4, 99):
            self.assertIsNone(table.at(slot))
            self.assertRaises(NotValid, table.put, slot, Process(1, 0, ()))
            self.assertRaises(NotValid, table.remove, slot)

    def test_children(self):
        table = Table()
        parent = process_of(table, 2)
        for slot in (3, 1, 0):
            process_of(table, slot, parent=parent.number)
        self.assertEqual(table.children(parent.number), [3, 1, 0])
        table.at(1).parent = 0
        self.assertEqual(table.children(parent.number), [3, 0])
        table.at(0).parent = 4
        self.assertEqual((table.children(4), table.children(2), table.children(77)), ([0], [], []))
        table.at(3).code = 9
        self.assertEqual(table.children(parent.number), [3])
        table.remove(3)
        self.assertEqual(table.children(parent.number), [])


class Over(unittest.TestCase):
    def test_without_a_parent(self):
        table = Table()
        process = process_of(table, 1)
        table.finish(1, 7)
        self.assertIsNone(table.at(1))
        self.assertEqual(process.code, 7)

    def test_with_a_parent(self):
        table = Table()
        process_of(table, 0)
        child = process_of(table, 1, parent=1)
        table.finish(1, 0)
        self.assertIs(table.at(1), child)
        self.assertEqual((child.code, child.parent, table.running()), (0, 1, [0]))

    def test_children_lose_their_parent(self):
        """Who is over by then leaves the slot, the others stay; and so do children of children."""
        table = Table()
        process_of(table, 0)
        process_of(table, 1, parent=1)
        process_of(table, 2, parent=1)
        process_of(table, 3, parent=3)
        table.finish(1, 5)
        table.finish(3, 6)
        self.assertEqual(table.running(), [0, 2])
        table.finish(0, 0)
        self.assertEqual([table.at(slot) is None for slot in range(4)], [True, True, False, False])
        self.assertEqual((table.at(2).parent, table.at(3).parent), (0, 3))
        table.finish(2, 0)
        self.assertEqual([table.at(slot) for slot in range(4)], [None] * 4)


class Openings(unittest.TestCase):
    def setUp(self):
        self.table = Table()
        self.one, self.other = process_of(self.table, 0), process_of(self.table, 3)

    def lead(self, process, end, number):
        process.ends[end] = number

    def test_numbers_are_never_given_twice(self):
        first = Opening("read", None, (1,), 0)
        self.assertEqual(self.table.add(first), 1)
        self.lead(self.one, 2, 1)
        self.assertEqual(self.table.add(Opening("read", None, (1,), 0)), 2)
        self.assertIs(self.table.opening(1), first)
        self.assertIsNone(self.table.close(self.one, 2))
        self.assertIsNone(self.table.opening(1))
        self.assertEqual(self.table.add(Opening("read", None, (1,), 0)), 3)
        self.assertIsNone(self.table.opening(4))

    def test_an_opening_goes_with_its_last_end(self):
        number = self.table.add(Opening("write", None, (5,), 3))
        self.assertEqual(self.table.users(number), 0)
        for process, end in ((self.one, 0), (self.one, 3), (self.other, 1)):
            self.lead(process, end, number)
        self.assertEqual(self.table.users(number), 3)
        self.assertIsNone(self.table.close(self.one, 3))
        self.assertEqual((self.one.ends, self.table.users(number)), ({0: number}, 2))
        self.assertIsNone(self.table.close(self.one, 0))
        self.assertIsNotNone(self.table.opening(number))
        self.assertIsNone(self.table.close(self.other, 1))
        self.assertIsNone(self.table.opening(number))
        self.assertEqual(self.table.users(number), 0)

    def test_a_pipe_goes_with_its_last_opening(self):
        outlet, inlet = self.table.add(Opening("outlet", 2, None, 0)), self.table.add(Opening("inlet", 2, None, 0))
        self.lead(self.one, 0, outlet)
        self.lead(self.one, 1, inlet)
        self.lead(self.other, 0, outlet)
        self.assertTrue(self.table.leads(2, "outlet"))
        self.assertTrue(self.table.leads(2, "inlet"))
        self.assertFalse(self.table.leads(1, "inlet"))
        self.assertIsNone(self.table.close(self.one, 1))
        self.assertFalse(self.table.leads(2, "inlet"))
        self.assertIsNone(self.table.close(self.one, 0))
        self.assertTrue(self.table.leads(2, "outlet"))
        self.assertEqual(self.table.close(self.other, 0), 2)
        self.assertFalse(self.table.leads(2, "outlet"))

    def test_pipe_number_0(self):
        number = self.table.add(Opening("outlet", 0, None, 0))
        self.lead(self.one, 0, number)
        self.assertEqual(self.table.close(self.one, 0), 0)

    def test_other_pipes_and_files_do_not_hold_a_pipe(self):
        rows = [Opening("inlet", 1, None, 0), Opening("inlet", 0, None, 0), Opening("write", None, (1,), 0)]
        for end, opening in enumerate(rows):
            self.lead(self.one, end, self.table.add(opening))
        self.assertEqual(self.table.close(self.one, 1), 0)
        self.assertIsNone(self.table.close(self.one, 2))
        self.assertEqual(self.table.close(self.one, 0), 1)

    def test_an_end_that_is_none(self):
        self.assertIsNone(self.table.close(self.one, 1))
        self.assertEqual(self.one.ends, {})

    def test_free_ends(self):
        self.assertEqual(self.table.free_ends(self.one), [0, 1, 2, 3])
        number = self.table.add(Opening("inlet", 0, None, 0))
        self.lead(self.one, 2, number)
        self.lead(self.one, 0, number)
        self.assertEqual(self.table.free_ends(self.one), [1, 3])
        self.assertEqual(self.table.free_ends(self.other), [0, 1, 2, 3])


class Copies(unittest.TestCase):
    def test_a_copy_shares_nothing(self):
        table = Table()
        process = process_of(table, 1)
        process.ends[0] = table.add(Opening("read", None, (4,), 2))
        process.registers[3], process.place = 8, 5
        copy = table.copied()
        again = copy.at(1)
        self.assertEqual((again.number, again.registers, again.place, again.ends), (1, process.registers, 5, {0: 1}))
        again.registers[3], again.ends[1], again.code = 9, 1, 4
        copy.opening(1).offset = 7
        copy.next_number()
        self.assertEqual((process.registers[3], process.ends, process.code), (8, {0: 1}, None))
        self.assertEqual((table.opening(1).offset, table.next_number(), copy.next_number()), (2, 2, 3))
        self.assertEqual(copy.add(Opening("read", None, (4,), 0)), 2)
        copy.remove(1)
        self.assertIsNotNone(table.at(1))


if __name__ == "__main__":
    unittest.main()
