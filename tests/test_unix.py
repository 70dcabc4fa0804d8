"""[68] and [69]: the order of the turns of a Unix, and when it rests."""

import random
import unittest

from unix_case import MachineCase, call, dir_of, file_of, mount, sets, wild_program

from steadhold.machines import Stack
from steadhold.unix import Running, Unix


class UnixCase(MachineCase):
    def unix_of(self, program, share=24, kind="A"):
        self.begin(share)
        return Unix(self.E, share, self.run_machine(mount(kind, self.E)), tuple(program))

    def run_unix(self, program, share=24, kind="A"):
        self.unix = self.unix_of(program, share, kind)
        rows = self.run_machine(Running(self.unix))
        self.assertTrue(self.unix.is_resting())
        self.assertEqual(self.unix.rows(), rows)
        return rows

    def numbers(self, rows):
        return [row[0] for row in rows]


class Beginning(UnixCase):
    def test_fields(self):
        program = (("call", "who"),)
        unix = self.unix_of(program, kind="B")
        self.assertEqual((unix.environment, unix.ports, unix.rows(), unix.is_resting()), (1, {}, [], False))
        process = unix.table.at(0)
        self.assertEqual((process.number, process.parent, process.ends, process.place), (1, 0, {}, 0))
        self.assertIs(process.program, program)
        self.assertEqual((unix.memory.pages(0), unix.memory.held(), unix.files.tree), ([], 0, dir_of()))
        self.assertFalse(unix.pipes.is_there(0))
        self.assertEqual([unix.table.at(slot) for slot in (1, 2, 3)], [None] * 3)

    def test_share(self):
        self.assertEqual([row[2][0] for row in self.run_unix([("call", "grow")] * 3, share=2)[:3]], [1, 1, 0])

    def test_the_empty_program(self):
        self.assertEqual(self.run_unix(()), [(1, "exit", (0,) * 6)])
        self.assertEqual(self.asked[-1], ("pass",))

    def test_one_process(self):
        rows = self.run_unix([("set", 1, 5), ("if", 1, 3), ("call", "fork"), ("call", "who")])
        self.assertEqual(rows, [
            (1, "set", (0, 5, 0, 0, 0, 0)), (1, "if", (0, 5, 0, 0, 0, 0)), (1, "who", (1, 1, 0, 0, 0, 0)),
            (1, "exit", (1, 1, 0, 0, 0, 0))])

    def test_returned_rows_are_new(self):
        self.run_unix(())
        self.unix.rows().clear()
        self.assertEqual(len(self.unix.rows()), 1)


class Order(UnixCase):
    def test_a_fork_into_a_higher_slot(self):
        # The child is in slot 1, so it has the turn behind the fork.
        rows = self.run_unix([("call", "fork"), ("set", 5, 1), ("set", 5, 2)])
        self.assertEqual(self.numbers(rows), [1, 2, 1, 2, 1, 2, 1])

    def test_three_forks(self):
        rows = self.run_unix([("call", "fork"), ("call", "fork"), ("set", 5, 2)])
        # 1 forks 2; 2 forks 3 into slot 2; 3 sets; 1 forks 4 into slot 3, and all go round.
        self.assertEqual([row[:2] for row in rows[:7]], [
            (1, "fork"), (2, "fork"), (3, "set"), (1, "fork"), (2, "set"), (3, "exit"), (4, "set")])

    def test_a_fork_into_a_lower_slot(self):
        program = [
            ("call", "fork"), ("if", 1, 6),
            # 2, in slot 1: lets 1 go first, then forks into slot 0.
            ("set", 5, 1), ("set", 5, 2), ("call", "fork"), ("set", 5, 3),
        ]
        rows = self.run_unix(program)
        self.assertEqual([row[:2] for row in rows], [
            (1, "fork"), (2, "if"), (1, "if"), (2, "set"), (1, "exit"),
            (2, "set"), (2, "fork"), (3, "set"), (2, "set"), (3, "exit"), (2, "exit")])
        self.assertEqual([self.unix.table.at(slot) for slot in range(4)], [None] * 4)

    def test_processes_that_are_over_have_no_turns(self):
        program = [("call", "fork"), ("if", 1, 3), ("call", "exit"), ("set", 4, 1), ("set", 4, 2), ("call", "wait")]
        rows = self.run_unix(program)
        self.assertEqual([row[:2] for row in rows], [
            (1, "fork"), (2, "if"), (1, "if"), (2, "exit"), (1, "set"), (1, "set"), (1, "wait"), (1, "exit")])

    def test_turns_in_vain_take_time_but_no_row(self):
        program = [("call", "fork"), ("if", 1, 4), ("set", 4, 1), ("jump", 5), ("call", "wait"), ("call", "exit")]
        rows = self.run_unix(program)
        self.assertEqual([row[:2] for row in rows], [
            (1, "fork"), (2, "if"), (1, "if"), (2, "set"), (2, "jump"), (2, "exit"), (1, "wait"), (1, "exit")])
        self.assertEqual(self.asked.count(("pass",)), 10)


class Resting(UnixCase):
    def test_nobody_runs(self):
        self.run_unix([("call", "fork"), ("call", "grow")])
        self.assertEqual([self.unix.table.at(slot) for slot in range(4)], [None] * 4)
        self.assertEqual(self.unix.memory.held(), 0)

    def test_one_waits_for_itself(self):
        rows = self.run_unix(call("pipe") + call("read", 0))
        self.assertEqual([row[1] for row in rows], ["pipe", "set"])
        self.assertEqual(self.asked.count(("pass",)), 3)
        self.assertEqual(self.unix.table.running(), [0])

    def test_all_wait_for_one_another(self):
        # The parent waits for the child, and the child for a word of the parent.
        rows = self.run_unix([("call", "pipe"), ("call", "fork"), ("if", 1, 4), ("call", "read"), ("call", "wait")])
        self.assertEqual([row[1] for row in rows], ["pipe", "fork", "if", "if"])
        self.assertEqual(self.unix.table.running(), [0, 1])
        # Both have a turn in vain, and the child's r1 of 0 is the outlet.
        self.assertEqual(self.asked.count(("pass",)), 6)

    def test_it_does_not_rest_while_one_goes_on(self):
        # Three wait for words of the fourth, which lets a long time go by.
        program = (
            ("call", "pipe"),
            ("call", "fork"), ("if", 1, 5), ("call", "read"), ("jump", 600),
            ("call", "fork"), ("if", 1, 9), ("call", "read"), ("jump", 600),
            ("call", "fork"), ("if", 1, 13), ("call", "read"), ("jump", 600),
        ) + (("set", 3, 1),) * 40 + (("set", 1, 1), ("call", "write"), ("call", "write"), ("call", "write"))
        rows = self.run_unix(program)
        self.assertEqual([row[1] for row in rows].count("read"), 3)
        self.assertEqual(self.unix.table.running(), [])

    def test_no_rest_within_a_turn(self):
        """While the last process closes its ends and clears its memory, the Unix does not rest."""
        self.begin()
        unix = Unix(self.E, 24, self.run_machine(mount("A", self.E)), tuple([("call", "grow")] * 3 + call("pipe")))
        stack = Stack(Running(unix))
        seen = []
        while stack.step(self.kernel, self.E):
            seen.append(unix.is_resting())
        self.assertEqual(seen, [False] * (len(seen) - 1) + [True])
        self.assertEqual(stack.value(), unix.rows())
        self.assertEqual((unix.rows()[-1][1], unix.memory.held()), ("exit", 0))

    def test_a_resting_unix_wants_nothing(self):
        self.run_unix(())
        self.asked = []
        self.assertEqual(self.run_machine(Running(self.unix)), self.unix.rows())
        self.assertEqual(self.asked, [])


class Steps(UnixCase):
    def test_each_turn_begins_with_a_pass(self):
        for seed in range(10):
            unix = self.unix_of(wild_program(seed, 150), kind="AB"[seed % 2])
            stack = Stack(Running(unix))
            many = 0
            for count in range(3000):
                before = len(unix.rows())
                self.asked_of(stack, count)
                many += self.asked[-1] == ("pass",)
                self.assertIn(len(unix.rows()) - before, (0, 1))
                self.assertLessEqual(len(unix.rows()), many)
                if stack.ended():
                    break
            for slot in range(4):
                if unix.is_resting():
                    self.check_memory(unix.memory, unix.pipes)

    def asked_of(self, stack, count):
        outer = self

        class Noted:
            def request(self, environment, request):
                outer.asked.append(request)
                return outer.kernel.request(environment, request)

        stack.step(Noted(), self.E)
        self.kernel.disk_does(count)
        self.check_share()

    def test_rows_do_not_depend_on_the_slices(self):
        """[69]: whatever the disk and the other environments do, and whoever has the slots in between."""
        compared = 0
        for seed in range(6):
            kind, program = "AB"[seed % 2], wild_program(seed, 200)
            unix = self.unix_of(program, kind=kind)
            stack = Stack(Running(unix))
            for count in range(4000):
                stack.step(self.kernel, self.E)
                self.kernel.disk_does(0)
            other = self.unix_of(program, kind=kind)
            stack, draw = Stack(Running(other)), random.Random(seed)
            for count in range(20000):
                if draw.random() < 0.5:
                    stack.step(self.kernel, self.E)
                if draw.random() < 0.3:
                    self.kernel.disk_does(draw.randrange(20))
                if draw.random() < 0.3:
                    self.kernel.request(3, draw.choice([("take",), ("reserve",), ("pass",)]))
                self.kernel.unit_passed()
            many = min(len(unix.rows()), len(other.rows()))
            compared += many
            self.assertEqual(unix.rows()[:many], other.rows()[:many])
        self.assertGreater(compared, 500)


class WithFiles(UnixCase):
    def test_what_is_written_is_there(self):
        program = call("open", 1, 0, 7) + sets(r2=5) + [("call", "write")] * 3 + [("call", "sync")]
        for kind in "AB":
            self.run_unix(program, kind=kind)
            self.assertEqual(self.unix.files.tree, dir_of(n7=file_of(5, 5, 5)))
            again = self.run_machine(mount(kind, self.E))
            self.assertEqual(again.tree, dir_of(n7=file_of(5, 5, 5)))


if __name__ == "__main__":
    unittest.main()
