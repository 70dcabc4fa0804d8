"""[72] and [73]: the judge over the rows of a Unix."""

import random
import unittest

from unix_case import MachineCase, call, dir_of, file_of, sets, wild_program

from steadhold.judge import first_fault, tree_at_sync, tree_behind
from steadhold.plain import Plain
from steadhold.trees import new_tree
from steadhold.world import World

WRITING = tuple(
    call("open", 1, 0, 7) + sets(r2=5) + [("call", "write"), ("call", "sync"), ("call", "write"), ("call", "sync")]
    + [("call", "write"), ("call", "sync")])


def rows_of(program, tree=None, told=None):
    """The rows of a plain Unix that is told this, a dict from the indexes of rows."""
    plain, rows = Plain(program, tree or new_tree()), []
    while not plain.is_resting() and len(rows) < 3000:
        row = plain.turn((told or {}).get(len(rows)))
        rows += [row] if row is not None else []
    return rows


def index_of(rows, name, which=0):
    return [at for at, row in enumerate(rows) if row[1] == name][which]


class JudgeCase(MachineCase):
    def check(self, fault, program, rows, tree=None):
        tree = tree or new_tree()
        self.assertEqual(first_fault(program, tree, rows), fault)
        self.assertEqual(tree_behind(program, tree, rows) is None, fault >= 0)


class Right(JudgeCase):
    def test_no_rows(self):
        tree = dir_of(n1=file_of(3))
        for program in ((), WRITING):
            self.check(-1, program, [], tree)
            behind = tree_behind(program, tree, [])
            self.assertEqual(behind, tree)
            self.assertIsNot(behind, tree)
            self.assertIsNone(tree_at_sync(program, tree, [], 0))

    def test_rows_of_the_plain_unix(self):
        for seed in range(25):
            program, tree = wild_program(seed), dir_of(n1=file_of(4), n2=dir_of(n3=file_of()))
            rows = rows_of(program, tree)
            self.check(-1, program, rows, tree)
            for many in (1, len(rows) // 2):
                self.check(-1, program, rows[:many], tree)
            plain = Plain(program, tree)
            while not plain.is_resting() and rows:
                if plain.turn(None) == rows[-1] and len(rows) == 3000:
                    break
            if len(rows) < 3000:
                self.assertEqual(tree_behind(program, tree, rows), plain.tree())

    def test_rows_for_lack_of_room(self):
        draw, refused = random.Random(5), []
        for seed in range(40):
            program = wild_program(seed, 300)
            told = {at: draw.choice([None, True, True, (draw.randrange(9), 4)]) for at in range(3000)}
            rows = rows_of(program, None, told)
            self.check(-1, program, rows)
            refused += [row[1] for row in rows if row[2][0] == 0 or row[1] == "full"]
        for name in ("pipe", "grow", "sync", "open", "make", "write", "full", "receive"):
            self.assertIn(name, refused)

    def test_each_refusal(self):
        for name, before in (
            ("pipe", []), ("grow", []), ("sync", []), ("open", sets(r1=1, r3=5)), ("make", sets(r3=5)),
            ("write", call("open", 1, 0, 5)),
        ):
            program = tuple(before) + (("call", name), ("call", "who"))
            rows = rows_of(program, None, {len(before): True})
            self.assertEqual((rows[len(before)][1], rows[len(before)][2][0]), (name, 0))
            self.check(-1, program, rows)
            self.assertEqual(tree_behind(program, new_tree(), rows), dir_of(n5=file_of()) if name == "write" else dir_of())

    def test_a_store_without_room(self):
        program = (("call", "grow"), ("store", 5, 5), ("set", 1, 1))
        rows = rows_of(program, None, {1: True})
        self.assertEqual([row[1] for row in rows], ["grow", "full"])
        self.check(-1, program, rows)
        self.check(2, program, rows + [(1, "set", (1, 1, 0, 0, 0, 0))])
        # Without the page there is no lack of room.
        rows = [(1, "full", (0,) * 6)]
        self.check(0, program[1:], rows)

    def test_packets(self):
        program = tuple(call("receive", 5) + call("receive", 5))
        for told in ({}, {1: (3, 4)}, {3: (0, 0)}, {1: (9, 9), 3: (7, 5)}):
            self.check(-1, program, rows_of(program, None, told))
        self.check(1, program, [(1, "set", (0, 5, 0, 0, 0, 0)), (1, "receive", (0, 5, 7, 0, 0, 0))])
        self.check(1, program, [(1, "set", (0, 5, 0, 0, 0, 0)), (1, "receive", (1, 5, 7, 1, 0, 0))])
        self.check(1, program, [(1, "set", (0, 5, 0, 0, 0, 0)), (2, "receive", (1, 5, 7, 0, 0, 0))])

    def test_turns_that_wait_leave_no_row(self):
        program = (("call", "pipe"), ("call", "fork"), ("if", 1, 5), ("set", 1, 1), ("call", "write"), ("call", "wait"))
        rows = rows_of(program)
        self.assertEqual([row[:2] for row in rows], [
            (1, "pipe"), (1, "fork"), (2, "if"), (1, "if"), (2, "set"), (2, "write"), (2, "wait"), (2, "exit"),
            (1, "wait"), (1, "exit")])
        self.check(-1, program, rows)


class Faults(JudgeCase):
    def setUp(self):
        self.tree = dir_of(n1=file_of(4))
        self.program = tuple(call("open", 0, 0, 1) + [("call", "read"), ("call", "grow"), *sets(r4=3), ("store", 4, 1)]
                             + [("call", "fork"), ("call", "pipe"), ("call", "sync"), ("call", "who")])
        self.rows = rows_of(self.program, self.tree)

    def test_it_is_right(self):
        self.check(-1, self.program, self.rows, self.tree)

    def test_one_row_changed(self):
        for at, (number, name, registers) in enumerate(self.rows):
            changed = [(number + 1, name, registers), (number, "copy", registers), (number, name, registers[:5] + (9,))]
            for index in range(6):
                other = list(registers)
                other[index] = (other[index] + 3) % 2 ** 32
                changed.append((number, name, tuple(other)))
            for row in changed:
                self.check(at, self.program, self.rows[:at] + [row] + self.rows[at + 1:], self.tree)

    def test_one_row_left_out(self):
        for at in range(len(self.rows) - 1):
            if self.rows[at] != self.rows[at + 1]:
                self.check(at, self.program, self.rows[:at] + self.rows[at + 1:], self.tree)

    def test_one_row_doubled(self):
        for at, row in enumerate(self.rows):
            if row != (self.rows + [None])[at + 1]:
                self.check(at + 1, self.program, self.rows[:at + 1] + self.rows[at:], self.tree)

    def test_a_row_put_first(self):
        for row in [row for row in self.rows if row != self.rows[0]]:
            self.check(0, self.program, [row] + self.rows, self.tree)

    def test_a_row_behind_the_rest(self):
        for row in self.rows:
            self.check(len(self.rows), self.program, self.rows + [row], self.tree)

    def test_a_plain_unix_that_waits(self):
        program = (("call", "pipe"), ("call", "read"))
        rows = rows_of(program)
        self.check(-1, program, rows)
        self.check(1, program, rows + [(1, "read", (1, 0, 1, 0, 0, 0))])
        self.check(1, program, rows + [(1, "pipe", (0, 0, 1, 0, 0, 0))])

    def test_refusals_that_are_none_of_room(self):
        for name in ("fork", "close", "read", "drop", "who", "send", "move"):
            program = (*call("open", 0, 0, 1), *(sets(r2=0) if name == "drop" else ()), ("call", name))
            rows = rows_of(program, self.tree)
            at = index_of(rows, name)
            self.assertEqual(rows[at][2][0], 1)
            row = (1, name, (0,) + rows[at - 1][2][1:])
            self.check(at, program, rows[:at] + [row], self.tree)

    def test_a_write_to_a_pipe_has_room(self):
        program = (("call", "pipe"), ("set", 1, 1), ("call", "write"))
        rows = rows_of(program)
        self.check(-1, program, rows)
        self.check(2, program, rows[:2] + [(1, "write", (0, 1, 1, 0, 0, 0))])

    def test_a_call_that_must_be_refused(self):
        """Nothing can be got by lack of room."""
        program = tuple([("call", "grow")] * 7)
        rows = rows_of(program)
        self.assertEqual(rows[6][2][0], 0)
        self.check(6, program, rows[:6] + [(1, "grow", (1, 56, 0, 0, 0, 0))])

    def test_values_that_are_no_rows(self):
        number, name, registers = self.rows[0]
        for row in (None, 5, (), (number, name), [number, name, registers], (number, name, list(registers)),
                    (True, name, registers), (number, name, registers[:5]), (number, None, registers),
                    (number, name, (False,) + registers[1:])):
            self.check(0, self.program, [row], self.tree)


class AtSyncs(JudgeCase):
    def test_each_sync(self):
        rows = rows_of(WRITING)
        for which in range(3):
            self.assertEqual(tree_at_sync(WRITING, new_tree(), rows, which), dir_of(n7=file_of(*[5] * (which + 1))))
        for which in (3, 99, -1):
            self.assertIsNone(tree_at_sync(WRITING, new_tree(), rows, which))

    def test_a_refused_sync_does_not_count(self):
        told = {at: True for at in [6]}
        self.assertEqual(rows_of(WRITING)[6][1], "sync")
        rows = rows_of(WRITING, None, told)
        self.assertEqual([row[2][0] for row in rows if row[1] == "sync"], [0, 1, 1])
        self.assertEqual(tree_at_sync(WRITING, new_tree(), rows, 0), dir_of(n7=file_of(5, 5)))
        self.assertEqual(tree_at_sync(WRITING, new_tree(), rows, 1), dir_of(n7=file_of(5, 5, 5)))
        self.assertIsNone(tree_at_sync(WRITING, new_tree(), rows, 2))

    def test_a_fault_before_and_behind(self):
        rows = rows_of(WRITING)
        at = index_of(rows, "sync", 1)
        behind = rows[:at + 1] + [(9, "who", (0,) * 6)] + rows[at + 1:]
        self.assertEqual(tree_at_sync(WRITING, new_tree(), behind, 1), dir_of(n7=file_of(5, 5)))
        self.assertIsNone(tree_at_sync(WRITING, new_tree(), behind, 2))
        before = rows[:at] + [(9, "who", (0,) * 6)] + rows[at:]
        self.assertEqual(tree_at_sync(WRITING, new_tree(), before, 0), dir_of(n7=file_of(5)))
        self.assertIsNone(tree_at_sync(WRITING, new_tree(), before, 1))

    def test_a_sync_that_is_a_fault_itself(self):
        rows = rows_of(WRITING)
        at = index_of(rows, "sync")
        rows[at] = rows[at][:2] + ((1, 9, 9, 9, 9, 9),)
        self.assertIsNone(tree_at_sync(WRITING, new_tree(), rows, 0))

    def test_trees_are_new_ones(self):
        tree = dir_of(n1=file_of(4))
        rows = rows_of((("call", "sync"),), tree)
        for found in (tree_behind((("call", "sync"),), tree, rows), tree_at_sync((("call", "sync"),), tree, rows, 0)):
            found["names"].clear()
        self.assertEqual(tree, dir_of(n1=file_of(4)))


class OfAUnix(JudgeCase):
    """[73]: the rows of a Unix over the kernel, whatever room it has."""

    def test_wild_programs(self):
        names = []
        for seed in range(40):
            draw, program = random.Random(seed), wild_program(seed)
            share, blocks = draw.choice([0, 1, 2, 4, 9, 24]), draw.choice([0, 3, 10, 20])
            world = World(24, 32, [2] * 8, [0, 0, share, 0], [0, 0, blocks, 0], [None, None, "AB"[seed % 2], None],
                          [None, None, program, None])
            for _ in range(20):
                if world.settle(100):
                    break
                world.play([("packet", (draw.choice([2, 6, 10]), draw.randrange(9), 1, 0, 0, 0))])
            rows = world.rows(2, 0)
            self.check(-1, program, rows)
            if world.rests(2):
                self.assertEqual(tree_behind(program, new_tree(), rows), world.tree(2))
            names += [row[1] for row in rows]
        self.assertGreater(len(set(names)), 20)


if __name__ == "__main__":
    unittest.main()
