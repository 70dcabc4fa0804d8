"""[55] and [56]: instructions and programs."""

import unittest

from steadhold.programs import NAMES, REGISTERS, instruction_at, is_program, plain_step

TOP = 2 ** 32 - 1


class Names(unittest.TestCase):
    def test_names(self):
        self.assertEqual(REGISTERS, 6)
        self.assertEqual(NAMES, (
            "fork", "exit", "wait", "pipe", "read", "write", "close", "move", "open", "make", "drop", "sync", "grow",
            "who", "send", "receive",
        ))


class Programs(unittest.TestCase):
    GOOD = [
        ("set", 0, 0), ("set", 5, TOP), ("copy", 0, 5), ("copy", 3, 3), ("add", 0, 1, 2), ("add", 5, 5, 5),
        ("sub", 5, 4, 3), ("less", 1, 1, 0), ("load", 0, 5), ("store", 5, 0), ("jump", 0), ("jump", 600), ("if", 5, 600),
        ("if", 0, 0), *[("call", name) for name in NAMES],
    ]

    def test_good_ones(self):
        self.assertIs(is_program(()), True)
        self.assertIs(is_program(tuple(self.GOOD)), True)
        for instruction in self.GOOD:
            self.assertIs(is_program((instruction,)), True, instruction)

    def test_lengths(self):
        for many, is_one in ((0, True), (1, True), (599, True), (600, True), (601, False), (700, False)):
            self.assertIs(is_program((("jump", 600),) * many), is_one)

    def test_too_many_and_too_few_parts(self):
        for instruction in self.GOOD:
            for wrong in (instruction + (0,), instruction[:-1], list(instruction), (instruction,)):
                self.assertIs(is_program((wrong,)), False, wrong)
                self.assertIs(is_program((("jump", 0), wrong)), False, wrong)

    def test_parts_out_of_bounds(self):
        strange = (-1, True, False, None, "0", "exit", (0,), [0], {}, 2 ** 32)
        for word, kinds in (
            ("set", "rw"), ("copy", "rr"), ("add", "rrr"), ("sub", "rrr"), ("less", "rrr"), ("load", "rr"),
            ("store", "rr"), ("jump", "p"), ("if", "rp"),
        ):
            for at, kind in enumerate(kinds):
                most = {"r": 5, "p": 600, "w": TOP}[kind]
                for value, is_one in [(0, True), (most, True), (most + 1, False), *[(value, False) for value in strange]]:
                    parts = [0] * len(kinds)
                    parts[at] = value
                    self.assertIs(is_program(((word, *parts),)), is_one, (word, parts))

    def test_names_of_no_call(self):
        for name in ("", "Exit", "register", "pass", "exec", 0, None, True, ("exit",), ["exit"], {}):
            self.assertIs(is_program((("call", name),)), False, name)

    def test_no_instructions(self):
        for value in (None, 3, "set", (), [], ("",), (None,), (3,), ("Set", 0, 0), ("mul", 0, 1, 2), ([],), ({},), (("set",), 0)):
            self.assertIs(is_program((value,)), False, value)

    def test_no_tuple(self):
        for value in (None, 3, "", "set", [], [("jump", 0)], {}, True, b"", ("set", 0, 0)):
            self.assertIs(is_program(value), False, value)


class Places(unittest.TestCase):
    def test_instruction_at(self):
        program = (("set", 0, 1), ("jump", 0))
        self.assertEqual(instruction_at(program, 0), ("set", 0, 1))
        self.assertEqual(instruction_at(program, 1), ("jump", 0))
        for place in (2, 3, 600):
            self.assertEqual(instruction_at(program, place), ("call", "exit"))
        self.assertEqual(instruction_at((), 0), ("call", "exit"))
        self.assertEqual(instruction_at((("jump", 1),) * 600, 599), ("jump", 1))
        self.assertEqual(instruction_at((("jump", 1),) * 600, 600), ("call", "exit"))


class Steps(unittest.TestCase):
    def check(self, instruction, registers, place, expected):
        before = list(registers)
        behind, next_place = plain_step(instruction, registers, place)
        self.assertEqual((behind, next_place), expected)
        self.assertIsInstance(behind, list)
        self.assertEqual(registers, before)
        behind[0] = "changed"
        self.assertEqual(registers, before)
        self.assertIsInstance(plain_step(instruction, registers, place), tuple)

    def test_set_and_copy(self):
        self.check(("set", 5, TOP), [1, 2, 3, 4, 5, 6], 7, ([1, 2, 3, 4, 5, TOP], 8))
        self.check(("set", 0, 0), [1, 2, 3, 4, 5, 6], 0, ([0, 2, 3, 4, 5, 6], 1))
        self.check(("copy", 0, 5), [1, 2, 3, 4, 5, 6], 599, ([6, 2, 3, 4, 5, 6], 600))
        self.check(("copy", 3, 3), [1, 2, 3, 4, 5, 6], 0, ([1, 2, 3, 4, 5, 6], 1))

    def test_sums_and_differences(self):
        self.check(("sub", 0, 1, 2), [9, 3, 5, 0, 0, 0], 4, ([4294967294, 3, 5, 0, 0, 0], 5))
        for word, one, other, result in (
            ("add", 0, 0, 0), ("add", 3, 4, 7), ("add", TOP, 0, TOP), ("add", TOP, 1, 0), ("add", TOP, TOP, TOP - 1),
            ("add", 2 ** 31, 2 ** 31, 0), ("sub", 0, 0, 0), ("sub", 0, 1, TOP), ("sub", 0, TOP, 1), ("sub", TOP, TOP, 0),
            ("sub", 7, 3, 4), ("less", 3, 4, 1), ("less", 4, 3, 0), ("less", 4, 4, 0), ("less", 0, TOP, 1),
            ("less", TOP, 0, 0),
        ):
            self.check((word, 3, 1, 2), [8, one, other, 9, 10, 11], 4, ([8, one, other, result, 10, 11], 5))
            self.check((word, 1, 1, 2), [8, one, other, 9, 10, 11], 4, ([8, result, other, 9, 10, 11], 5))
            self.check((word, 2, 1, 2), [8, one, other, 9, 10, 11], 4, ([8, one, result, 9, 10, 11], 5))

    def test_one_register_three_times(self):
        self.check(("add", 4, 4, 4), [0, 0, 0, 0, 2 ** 31 + 3, 0], 1, ([0, 0, 0, 0, 6, 0], 2))
        self.check(("sub", 4, 4, 4), [0, 0, 0, 0, 5, 0], 1, ([0, 0, 0, 0, 0, 0], 2))
        self.check(("less", 4, 4, 4), [0, 0, 0, 0, 5, 0], 1, ([0, 0, 0, 0, 0, 0], 2))

    def test_jump_and_if(self):
        registers = [0, 1, TOP, 0, 0, 0]
        self.check(("jump", 600), registers, 3, (registers, 600))
        self.check(("jump", 3), registers, 3, (registers, 3))
        self.check(("if", 1, 0), registers, 3, (registers, 0))
        self.check(("if", 2, 9), registers, 3, (registers, 9))
        self.check(("if", 0, 9), registers, 3, (registers, 4))


if __name__ == "__main__":
    unittest.main()
