"""[70] and [71]: the plain Unix, and what it is told."""

import random
import unittest

from unix_case import TOP, MachineCase, call, dir_of, file_of, mount, sets, wild_program

from steadhold.plain import Plain
from steadhold.trees import new_tree
from steadhold.unix import Running, Unix

ROOM = ("pipe", "grow", "sync", "open", "make", "write", "store")


class PlainCase(unittest.TestCase):
    def run_plain(self, program, tree=None, told=None, most=5000):
        """The rows of all turns; told is a dict from indexes of rows to what is told for them."""
        self.plain = Plain(tuple(program), tree or new_tree())
        rows = []
        while not self.plain.is_resting() and len(rows) < most:
            row = self.plain.turn((told or {}).get(len(rows)))
            if row is not None:
                rows.append(row)
        return rows

    def registers(self, program, name, **more):
        """The registers behind each call of this name."""
        return [row[2] for row in self.run_plain(program, **more) if row[1] == name]

    def results(self, program, name, **more):
        return [registers[:3] for registers in self.registers(program, name, **more)]

    def last(self, program, **more):
        """The row before the exit."""
        return self.run_plain(program, **more)[-2]


class Turns(PlainCase):
    def test_plain_instructions(self):
        rows = self.run_plain([("set", 1, 5), ("sub", 2, 0, 1), ("if", 2, 4), ("set", 5, 1), ("jump", 9)])
        self.assertEqual(rows, [
            (1, "set", (0, 5, 0, 0, 0, 0)), (1, "sub", (0, 5, TOP - 4, 0, 0, 0)), (1, "if", (0, 5, TOP - 4, 0, 0, 0)),
            (1, "jump", (0, 5, TOP - 4, 0, 0, 0)), (1, "exit", (0, 5, TOP - 4, 0, 0, 0))])

    def test_nothing_can_run(self):
        self.run_plain(())
        self.assertTrue(self.plain.is_resting())
        for told in (None, True, (1, 2)):
            self.assertIsNone(self.plain.turn(told))

    def test_a_turn_that_waits(self):
        plain = Plain((("call", "pipe"), ("call", "read")), new_tree())
        self.assertEqual(plain.turn(None)[1], "pipe")
        self.assertFalse(plain.is_resting())
        self.assertIsNone(plain.turn(None))
        self.assertTrue(plain.is_resting())
        self.assertIsNone(plain.turn(None))

    def test_order_of_turns(self):
        rows = self.run_plain([("call", "fork"), ("call", "fork"), ("set", 5, 2)])
        self.assertEqual([row[:2] for row in rows[:7]], [
            (1, "fork"), (2, "fork"), (3, "set"), (1, "fork"), (2, "set"), (3, "exit"), (4, "set")])


class Calls(PlainCase):
    def test_memory(self):
        program = [("call", "grow")] + sets(r1=7, r2=9) + [("store", 1, 2), ("load", 3, 1)]
        self.assertEqual(self.last(program), (1, "load", (1, 7, 9, 9, 0, 0)))
        self.assertEqual(self.results([("call", "grow")] * 7, "grow"), [(1, many, 0) for many in range(8, 49, 8)] + [(0, 48, 0)])

    def test_addresses_that_are_not_there(self):
        for pages, address in ((0, 0), (1, 8), (6, 48), (6, TOP)):
            for instruction in (("load", 3, 4), ("store", 4, 3)):
                rows = self.run_plain([("call", "grow")] * pages + sets(r4=address) + [instruction, ("set", 5, 5)])
                self.assertEqual((rows[-1][1], rows[-1][2][4]), (instruction[0], address))
                rows = self.run_plain([("call", "fork"), ("if", 1, 5), ("set", 4, address), instruction, ("jump", 9), ("call", "wait")])
                self.assertEqual(rows[-2], (1, "wait", (1, 2, 1, 0, 0, 0)))

    def test_a_fork_copies_the_memory(self):
        program = [
            ("call", "grow"), ("set", 4, 3), ("set", 5, 8), ("store", 4, 5), ("call", "fork"), ("if", 1, 9),
            ("set", 5, 9), ("store", 4, 5), ("jump", 99),
            ("call", "wait"), ("load", 5, 4),
        ]
        self.assertEqual(self.last(program), (1, "load", (1, 2, 0, 0, 3, 8)))
        program[6:8] = [("load", 1, 4), ("call", "exit")]
        self.assertEqual(self.results(program, "wait"), [(1, 2, 8)])

    def test_fork_wait_and_who(self):
        program = [("call", "wait"), ("call", "fork"), ("if", 1, 5), ("call", "who"), ("call", "exit"), ("call", "wait")]
        rows = self.run_plain(program)
        self.assertEqual([row for row in rows if row[1] in ("wait", "fork", "who")], [
            (1, "wait", (0,) * 6), (1, "fork", (1, 2, 0, 0, 0, 0)), (2, "who", (1, 2, 1, 0, 0, 0)),
            (1, "wait", (1, 2, 2, 0, 0, 0))])

    def test_no_slot_left(self):
        # Each child waits for a word that never comes.
        program = [("call", "pipe")] + [("call", "fork"), ("if", 1, 4), ("call", "read")]
        for place in (7, 10, 13):
            program += [("call", "fork"), ("if", 1, place), ("call", "read")]
        program[2] = ("if", 1, 4)
        self.assertEqual(self.results(program, "fork"), [(1, 2, 1), (1, 3, 1), (1, 4, 1), (0, 4, 1)])

    def test_pipes(self):
        program = [("call", "pipe"), ("set", 4, 0), ("set", 5, 1), ("set", 1, 1), ("set", 2, 77), ("call", "write"),
                   ("set", 1, 0), ("call", "read"), ("set", 1, 1), ("call", "close"), ("set", 1, 0), ("call", "read")]
        rows = self.run_plain(program)
        self.assertEqual([row[2][:2] for row in rows if row[1] == "read"], [(1, 77), (0, 0)])

    def test_pipes_that_are_left(self):
        """Two free ends are needed, and a number: four processes can have no more than four pipes."""
        closing = [row for end in range(4) for row in call("close", end)]
        program = [("call", "pipe")] * 3 + [("call", "fork"), ("if", 1, 28)]
        program += closing + [("call", "pipe")] * 3 + [("call", "fork"), ("if", 1, 28)] + closing + [("call", "pipe")]
        program += [("jump", 28), ("call", "wait")]
        self.assertEqual(program[28], ("call", "wait"))
        rows = [row for row in self.run_plain(program) if row[1] == "pipe"]
        self.assertEqual([row[:1] + row[2][:3] for row in rows], [
            (1, 1, 0, 1), (1, 1, 2, 3), (1, 0, 2, 3), (2, 1, 0, 1), (2, 1, 2, 3), (2, 0, 2, 3), (3, 0, 3, 3)])

    def test_close_and_move(self):
        for words, result in (
            ((0, 3), 1), ((0, 0), 1), ((1, 0), 1), ((0, 4), 0), ((0, TOP), 0), ((2, 0), 0), ((4, 4), 0), ((2, 2), 0),
        ):
            row = self.last([("call", "pipe")] + call("move", *words))
            self.assertEqual(row, (1, "move", (result, *words, 0, 0, 0)))
        for end, result in ((0, 1), (1, 1), (2, 0), (4, 0), (TOP, 0)):
            self.assertEqual(self.last([("call", "pipe")] + call("close", end))[2][0], result)

    def test_a_file_that_is_gone(self):
        tree = dir_of(n1=file_of(5))
        for mode, name in ((0, "read"), (2, "write")):
            row = self.last(call("open", mode, 0, 1) + call("drop", 0, 0, 1) + call(name, 0), tree=tree)
            self.assertEqual((row[1], row[2][0], row[2][1]), (name, 0, 0))

    def test_a_full_pipe(self):
        rows = self.run_plain([("call", "pipe")] + sets(r1=1) + [("call", "write")] * 9)
        self.assertEqual([row[1] for row in rows], ["pipe", "set"] + ["write"] * 8)
        self.assertTrue(self.plain.is_resting())

    def test_files(self):
        tree = dir_of(n1=file_of(5, 6), n2=dir_of())
        program = call("open", 0, 0, 1) + sets(r1=0) + [("call", "read"), ("set", 1, 0), ("call", "read"), ("set", 1, 0), ("call", "read")]
        self.assertEqual([row[:2] for row in self.registers(program, "read", tree=tree)], [(1, 5), (1, 6), (0, 0)])
        program = call("open", 2, 0, 1) + sets(r2=8) + [("call", "write")] + call("open", 1, 2, 3) + call("make", 0, 0, 4)
        self.run_plain(program, tree)
        self.assertEqual(self.plain.tree(), dir_of(n1=file_of(5, 6, 8), n2=dir_of(n3=file_of()), n4=dir_of()))
        self.assertEqual(tree, dir_of(n1=file_of(5, 6), n2=dir_of()))
        self.run_plain(call("open", 1, 0, 1) + call("drop", 0, 0, 2) + call("drop", 0, 0, 9), tree)
        self.assertEqual(self.plain.tree(), dir_of(n1=file_of()))

    def test_refused_calls_of_files(self):
        tree = dir_of(n1=file_of(5), n2=dir_of())
        for name, words in (
            ("open", (3, 0, 1)), ("open", (0, 0, 0)), ("open", (1, 1, 0)), ("open", (0, 0, 9)), ("open", (0, 0, 2)),
            ("open", (1, 0, 2)), ("open", (2, 0, 2)), ("open", (1, 1, 1)), ("open", (2, 9, 1)), ("make", (0, 0, 1)),
            ("make", (0, 1, 1)), ("make", (0, 0, 0)), ("drop", (0, 0, 0)), ("drop", (0, 0, 7)), ("drop", (0, 2, 7)),
        ):
            row = self.last(call(name, *words), tree=tree)
            self.assertEqual(row, (1, name, (0, *words, 0, 0)))
            self.assertEqual(self.plain.tree(), tree)

    def test_send_and_receive(self):
        self.assertEqual(self.last(call("send", 1, 2)), (1, "send", (1, 1, 2, 0, 0, 0)))
        self.assertEqual(self.last(call("receive", 5)), (1, "receive", (0, 5, 0, 0, 0, 0)))


class Told(PlainCase):
    def told_at_end(self, program, told, tree=None):
        """The row of the last instruction, for which this is told, and the tree behind it."""
        plain = Plain(tuple(program), tree or new_tree())
        for _ in program[:-1]:
            self.assertIsNotNone(plain.turn(None))
        self.plain = plain
        return plain.turn(told)

    def test_no_room(self):
        tree = dir_of(n1=file_of(5))
        for program in (
            call("pipe"), call("grow"), call("sync"), call("open", 0, 0, 1), call("open", 1, 0, 1), call("open", 2, 0, 7),
            call("make", 0, 0, 7), call("open", 2, 0, 1) + [("call", "write")],
        ):
            self.assertEqual(self.told_at_end(program, None, tree)[2][0], 1)
            row = self.told_at_end(program, True, tree)
            self.assertEqual((row[1], row[2][0]), (program[-1][1], 0))
            self.assertEqual(self.plain.tree(), tree)
            self.assertEqual(self.told_at_end(program, (4, 5), tree)[2][0], 1)

    def test_a_refused_open_leads_to_nothing(self):
        row = self.told_at_end(call("open", 1, 0, 7) + [("call", "close")], None)
        self.assertEqual(row[2][0], 1)
        self.told_at_end(call("open", 1, 0, 7), True)
        self.assertEqual(self.plain.tree(), new_tree())

    def test_a_store_without_room(self):
        program = [("call", "grow"), ("set", 1, 7), ("store", 1, 1)]
        self.assertEqual(self.told_at_end(program, True), (1, "full", (1, 7, 0, 0, 0, 0)))
        self.assertTrue(self.plain.is_resting())
        program[1] = ("set", 1, 8)
        self.assertEqual(self.told_at_end(program, True), (1, "store", (1, 8, 0, 0, 0, 0)))
        program = (("call", "grow"), ("call", "fork"), ("if", 1, 4), ("store", 5, 5), ("call", "wait"))
        plain = Plain(program, new_tree())
        rows = []
        while not plain.is_resting():
            row = plain.turn(True if len(rows) >= 3 else None)
            rows += [row] if row else []
        self.assertIn((2, "full", (1, 0, 0, 0, 0, 0)), rows)
        self.assertIn((1, "wait", (1, 2, 2, 0, 0, 0)), rows)

    def test_true_where_it_does_not_apply(self):
        for program in (
            [("set", 1, 5)], [("call", "who")], [("call", "fork")], [("call", "exit")], call("send", 1, 2),
            call("drop", 0, 0, 1), [("call", "grow"), ("load", 1, 2)], [("call", "pipe"), *sets(r1=1), ("call", "write")],
            [("call", "pipe"), *sets(r1=1), ("call", "close")], [("call", "pipe"), ("set", 2, 3), ("call", "move")],
            [*call("open", 0, 0, 1), ("call", "read")], [("call", "wait")],
        ):
            tree = dir_of(n1=file_of(5))
            self.assertEqual(self.told_at_end(program, True, tree), self.told_at_end(program, None, tree))
            self.assertEqual(self.told_at_end(program, (3, 4), tree), self.told_at_end(program, None, tree))

    def test_receive(self):
        program = call("receive", 5)
        self.assertEqual(self.told_at_end(program, (8, TOP)), (1, "receive", (1, 8, TOP, 0, 0, 0)))
        self.assertEqual(self.told_at_end(program, None), (1, "receive", (0, 5, 0, 0, 0, 0)))
        self.assertEqual(self.told_at_end(program, True), (1, "receive", (0, 5, 0, 0, 0, 0)))

    def test_receive_of_many_ports(self):
        """What a receive gets is told, whatever the port is."""
        rows = []
        plain = Plain(tuple(row for port in range(9) for row in call("receive", port)), new_tree())
        for _ in range(18):
            rows.append(plain.turn((1, 2)))
        self.assertEqual([row[2][0] for row in rows if row[1] == "receive"], [1] * 9)


class Copies(PlainCase):
    def test_a_copy_goes_on_alike_and_apart(self):
        for seed in range(8):
            plain = Plain(wild_program(seed, 200), dir_of(n1=file_of(4)))
            for _ in range(60 + 10 * seed):
                plain.turn(None)
            copy, rows = plain.copied(), []
            before = copy.tree()
            for _ in range(80):
                rows.append((plain.turn(None), plain.is_resting()))
            self.assertEqual(copy.tree(), before)
            self.assertEqual([(copy.turn(None), copy.is_resting()) for _ in range(80)], rows)
            self.assertEqual(copy.tree(), plain.tree())

    def test_a_copy_among_turns_in_vain(self):
        """One of two has waited in vain: the copy rests behind the next turn in vain, too."""
        plain = Plain((("call", "pipe"), ("call", "fork"), ("set", 1, 0), ("call", "read")), new_tree())
        rows = []
        while len(rows) < 5:
            rows.append(plain.turn(None))
        self.assertIsNone(rows[-1])
        self.assertFalse(plain.is_resting())
        copy = plain.copied()
        for each in (plain, copy):
            self.assertIsNone(each.turn(None))
            self.assertTrue(each.is_resting())

    def test_a_tree_is_a_new_one_each_time(self):
        tree = dir_of(n1=file_of(4))
        plain = Plain((), tree)
        tree["names"][1]["words"].append(5)
        self.assertEqual(plain.tree(), dir_of(n1=file_of(4)))
        plain.tree()["names"].clear()
        self.assertEqual(plain.tree(), dir_of(n1=file_of(4)))
        copy = plain.copied()
        plain.tree()["names"][1]["words"].clear()
        self.assertEqual(copy.tree(), dir_of(n1=file_of(4)))


class AgainstTheUnix(MachineCase, PlainCase):
    """Row by row, a Unix that never lacks room does what the plain one does."""

    def test_wild_programs(self):
        names = {}
        for seed in range(60):
            program, kind = wild_program(seed), "AB"[seed % 2]
            self.begin()
            unix = Unix(self.E, 24, self.run_machine(mount(kind, self.E)), program)
            rows = self.run_some(Running(unix), unix)
            plain = Plain(program, new_tree())
            for row in rows:
                found = None
                while found is None:
                    self.assertFalse(plain.is_resting())
                    room = row[1] in ROOM + ("full",) and row[2][0] == 0
                    found = plain.copied().turn(None)
                    found = plain.turn(True if room and found is not None and found != row else None)
                self.assertEqual(found, row)
                names[row[1]] = names.get(row[1], 0) + 1
            if unix.is_resting():
                self.assertEqual([plain.turn(None) for _ in range(4)], [None] * 4)
                self.assertEqual((plain.is_resting(), plain.tree()), (True, unix.files.tree))
                self.check_memory(unix.memory, unix.pipes)
        self.assertGreater(min(names.values()), 3)
        self.assertGreater(len(names), 22)

    def run_some(self, machine, unix):
        from steadhold.machines import Stack

        stack = Stack(machine)
        for count in range(5000):
            if not stack.step(self.kernel, self.E):
                break
            self.kernel.disk_does(count)
        return unix.rows()


class Deterministic(PlainCase):
    def test_the_same_each_time(self):
        draw = random.Random(3)
        for seed in range(5):
            program = wild_program(seed, 100)
            told = {at: draw.choice([None, None, True, (1, 2)]) for at in range(300)}
            self.assertEqual(self.run_plain(program, told=told, most=300), self.run_plain(program, told=told, most=300))


if __name__ == "__main__":
    unittest.main()
