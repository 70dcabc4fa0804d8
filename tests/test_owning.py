"""Promises [24] to [26]: owning."""

import random
import unittest

from steadhold.errors import NotValid
from steadhold.owning import MOST_TYPES, Types, is_program, run_program

TOP = 2 ** 32 - 1
COUNTED = (((), 1, ("word", 0), 0),)
NODE = (
    (((0, 255, 1),), 1, 1, "own"), (((0, 255, 1),), 3, 1, "own"), (((0, 255, 1),), 5, 1, "own"),
    (((0, 255, 1),), 7, 1, "own"), (((0, 255, 2),), 2, 6, 0),
)
SEGMENT = (((), 0, 1, "own"),)


def row(*words):
    return words + (0,) * (8 - len(words))


def clause(guards=(), start=0, many=1, kind=0):
    return (guards, start, many, kind)


class Programs(unittest.TestCase):
    def test_constant(self):
        self.assertEqual(MOST_TYPES, 4)

    def test_programs(self):
        for value in (
            (), COUNTED, NODE, SEGMENT, (clause(),) * 8, (clause(start=7),), (clause(start=0, many=8),),
            (clause(start=5, many=3),), (clause(start=7, many=("word", 7)),), (clause(guards=((7, TOP, TOP),) * 4),),
            (clause(guards=((0, 0, 0),)),), (clause(guards=((0, 1, 2),)),), (clause(guards=((3, 1, 1), (1, 1, 1))),),
        ):
            self.assertIs(is_program(value, 2), True, value)

    def test_one_part_is_spoiled(self):
        good = ((((0, 255, 1), (7, 1, 0)), 2, 3, "own"), ((), 1, ("word", 0), 0))
        self.assertIs(is_program(good, 2), True)
        numbers = (-1, 8, True, False, None, "1", 1.0, (1,), [1])
        spoiled = [None, 0, True, "own", b"", [], {}, list(good), (clause(),) * 9, (None,), (1,), ("abcd",), ((),)]
        spoiled += [(list(clause()),), (clause() + (0,),), (clause()[:3],), (*good, None), clause()]
        for wrong in numbers:
            spoiled += [(clause(start=wrong),), (clause(guards=((wrong, 1, 1),)),)]
            spoiled += [(clause(many=("word", wrong)),)]
        for wrong in (-1, TOP + 1, True, False, None, "1", 1.0, (1,), [1]):
            spoiled += [(clause(guards=((0, wrong, 1),)),), (clause(guards=((0, 1, wrong),)),)]
        for wrong in (None, 0, True, "", [], [(0, 1, 1)], (None,), ((),), ((0, 1),), ((0, 1, 1, 1),), ([0, 1, 1],)):
            spoiled.append((clause(guards=wrong),))
        spoiled.append((clause(guards=((0, 1, 1),) * 5),))
        for wrong in (
            0, -1, 9, True, None, "1", 1.0, [1], (), ("word",), ("word", 0, 0), ["word", 0], ("Word", 0), (0, "word"),
        ):
            spoiled.append((clause(many=wrong),))
        spoiled += [(clause(start=1, many=8),), (clause(start=7, many=2),), (clause(start=4, many=5),)]
        for wrong in (1, 2, -1, True, False, None, "Own", "", "0", 0.0, (0,), [0], ["own"]):
            spoiled.append((clause(kind=wrong),))
        for value in spoiled:
            self.assertIs(is_program(value, 2), False, value)
            if isinstance(value, tuple):
                self.assertIs(is_program((*value, *good), 2), False, value)

    def test_elder_types(self):
        for count in range(2, 8):
            allowed = [kind for kind in range(-1, 10) if is_program((clause(kind=kind),), count)]
            self.assertEqual(allowed, [0] + list(range(2, count)))
            self.assertTrue(is_program((clause(kind="own"),), count))


class Running(unittest.TestCase):
    def test_example(self):
        self.assertEqual(run_program(COUNTED, (2, 9, 7, 8, 0, 0, 0, 0), 24, 2), ((9, 0), (7, 0)))

    def test_without_clauses(self):
        self.assertEqual(run_program((), (TOP,) * 8, 24, 2), ())

    def test_own_and_other_types(self):
        program = (clause(start=2, many=2, kind=3), clause(start=0, many=1, kind="own"), clause(start=7, kind=0))
        self.assertEqual(run_program(program, (4, 5, 6, 7, 8, 9, 10, 11), 24, 9), ((6, 3), (7, 3), (4, 9), (11, 0)))

    def test_guards(self):
        program = (clause(guards=((0, 255, 1), (7, 3, 2)), start=1, many=2),)
        for words, owned in (
            ((1, 5, 6, 0, 0, 0, 0, 2), ((5, 0), (6, 0))), ((257, 5, 6, 0, 0, 0, 0, 6), ((5, 0), (6, 0))),
            ((1, 5, 6, 0, 0, 0, 0, 3), ()), ((2, 5, 6, 0, 0, 0, 0, 2), ()), ((0,) * 8, ()),
        ):
            self.assertEqual(run_program(program, words, 24, 2), owned)

    def test_a_guard_that_never_holds_and_one_that_always_does(self):
        self.assertEqual(run_program((clause(guards=((0, 1, 2),)),), row(5), 24, 2), ())
        self.assertEqual(run_program((clause(guards=((0, 0, 0),)),), row(5), 24, 2), ((5, 0),))

    def test_a_clause_is_passed_over_and_the_next_is_not(self):
        program = (clause(guards=((0, 1, 1),), start=1), clause(start=2))
        self.assertEqual(run_program(program, row(0, 5, 6), 24, 2), ((6, 0),))
        self.assertEqual(run_program(program, row(1, 5, 6), 24, 2), ((5, 0), (6, 0)))

    def test_what_is_passed_over_is_not_ill(self):
        program = (clause(guards=((0, 1, 1),), start=1),)
        self.assertEqual(run_program(program, row(0, 3), 24, 2), ())
        self.assertIsNone(run_program(program, row(1, 3), 24, 2))

    def test_counts_in_a_word(self):
        words = (5, 6, 7, 8, 9, 10, 11, 12)
        for start in range(8):
            for count in (0, 1, 2, 7, 8, 9, 100, TOP):
                for place in range(8):
                    told = list(words)
                    told[place] = count
                    got = run_program(((((), start, ("word", place), 0)),), tuple(told), 64, 2)
                    wanted = [word for word in told[start:start + min(count, 8)] if word != 0]
                    ill = len(set(wanted)) < len(wanted) or any(not 4 <= word < 64 for word in wanted)
                    self.assertEqual(got, None if ill else tuple((word, 0) for word in wanted))

    def test_words_that_are_zero(self):
        self.assertEqual(run_program((clause(many=8),), (0, 5, 0, 0, 6, 0, 7, 0), 24, 2), ((5, 0), (6, 0), (7, 0)))
        self.assertEqual(run_program((clause(many=8),), (0,) * 8, 24, 2), ())

    def test_numbers_out_of_bounds(self):
        for number in (1, 2, 3, 24, 25, TOP):
            self.assertIsNone(run_program(SEGMENT, row(number), 24, 2))
            self.assertIsNone(run_program((clause(many=3),), row(5, number, 6), 24, 2))
        for number in (4, 23):
            self.assertEqual(run_program(SEGMENT, row(number), 24, 2), ((number, 2),))
        self.assertEqual(run_program(SEGMENT, row(24), 25, 2), ((24, 2),))

    def test_a_number_twice(self):
        self.assertIsNone(run_program((clause(many=2),), row(5, 5), 24, 2))
        self.assertIsNone(run_program((clause(many=2), clause(start=1)), row(5, 6), 24, 2))
        self.assertIsNone(run_program((clause(), clause(start=7, kind="own")), (5, 0, 0, 0, 0, 0, 0, 5), 24, 2))
        self.assertIsNone(run_program((clause(), clause()), row(5), 24, 2))
        self.assertEqual(run_program((clause(), clause()), row(0), 24, 2), ())

    def test_nodes(self):
        self.assertEqual(run_program(NODE, (1, 9, 100, 10, 200, 11, 0, 0), 24, 3), ((9, 3), (10, 3), (11, 3)))
        self.assertEqual(run_program(NODE, (2, 9, 10, 11, 0, 0, 0, 0), 24, 3), ((10, 0), (11, 0)))
        self.assertEqual(run_program(NODE, (0, 9, 10, 11, 0, 0, 0, 0), 24, 3), ())
        self.assertIsNone(run_program(NODE, (1, 9, 100, 9, 0, 0, 0, 0), 24, 3))

    def plain_run(self, program, words, blocks, own):
        """The words of point [25], step by step."""
        owned = []
        for guards, start, many, kind in program:
            if any(words[index] & mask != value for index, mask, value in guards):
                continue
            left = words[many[1]] if isinstance(many, tuple) else many
            at = start
            while left > 0 and at < 8:
                if words[at] != 0:
                    if not 4 <= words[at] < blocks or words[at] in [block for block, _ in owned]:
                        return None
                    owned.append((words[at], own if kind == "own" else kind))
                at += 1
                left -= 1
        return tuple(owned)

    def test_random_programs(self):
        chance = random.Random(6)
        ill = 0
        for _ in range(3000):
            program = []
            for _ in range(chance.randrange(4)):
                guards = tuple(
                    (chance.randrange(8), chance.randrange(4), chance.randrange(3))
                    for _ in range(chance.choice([0, 0, 1, 2]))
                )
                start = chance.randrange(8)
                many = chance.choice([chance.randrange(1, 9 - start), ("word", chance.randrange(8))])
                program.append((guards, start, many, chance.choice([0, "own"])))
            words = tuple(chance.choice([0, 0, 0, 1, chance.randrange(4, 24)]) for _ in range(8))
            wanted = self.plain_run(program, words, 24, 5)
            ill += wanted is None
            self.assertTrue(is_program(tuple(program), 2))
            self.assertEqual(run_program(tuple(program), words, 24, 5), wanted)
        self.assertGreater(ill, 300)
        self.assertLess(ill, 2700)


class OfTypes(unittest.TestCase):
    def setUp(self):
        self.types = Types(24)

    def test_at_first(self):
        self.assertEqual((self.types.count(), self.types.programs()), (2, []))
        self.assertEqual([self.types.is_known(number) for number in range(-1, 4)], [False, True, True, False, False])

    def test_known(self):
        for value in (True, False, None, "0", 0.0, (0,), [0], -1):
            self.assertIs(self.types.is_known(value), False)

    def test_data(self):
        for words in ((0,) * 8, (TOP,) * 8, row(5, 5)):
            self.assertEqual(self.types.owned(0, words), ())

    def test_root(self):
        self.types.add(SEGMENT, 0)
        for words, owned in (
            (row(0, 0), ()), (row(0, 1), ()), (row(0, TOP), ()), (row(5, 0), ((5, 0),)), (row(4, 2), ((4, 2),)),
            (row(23, 2), ((23, 2),)), (row(5, 1), None), (row(5, 3), None), (row(5, TOP), None), (row(1, 0), None),
            (row(3, 2), None), (row(24, 2), None), (row(TOP, 2), None), (row(5, 2, 5, 5), ((5, 2),)),
        ):
            self.assertEqual(self.types.owned(1, words), owned)

    def test_registered(self):
        self.assertEqual(self.types.add(SEGMENT, 0), 2)
        self.assertEqual(self.types.add(NODE, 3), 3)
        self.assertEqual((self.types.count(), self.types.programs()), (4, [SEGMENT, NODE]))
        self.assertEqual([self.types.is_known(number) for number in (2, 3, 4)], [True, True, False])
        self.assertEqual(self.types.owned(2, row(5)), ((5, 2),))
        self.assertEqual(self.types.owned(3, row(1, 5)), ((5, 3),))
        self.assertIsNone(self.types.owned(2, row(24)))

    def test_own_is_the_own_number(self):
        for number, start in ((2, 0), (3, 1), (4, 2)):
            self.assertEqual(self.types.add((clause(start=start, kind="own"),), 1), number)
        self.assertEqual([self.types.owned(n, row(5, 6, 7)) for n in (2, 3, 4)], [((5, 2),), ((6, 3),), ((7, 4),)])

    def test_elder_types(self):
        self.assertIsNone(self.types.add((clause(kind=2),), 0))
        self.assertEqual(self.types.add(SEGMENT, 0), 2)
        self.assertEqual(self.types.add((clause(kind=2),), 1), 3)
        self.assertEqual(self.types.owned(3, row(5)), ((5, 2),))
        self.assertIsNone(self.types.add((clause(kind=4),), 1))
        self.assertIsNone(self.types.add((clause(kind=1),), 1))

    def test_a_program_keeps_its_number(self):
        self.assertEqual([self.types.add(SEGMENT, e) for e in (0, 0, 1, 2, 3)], [2] * 5)
        self.assertEqual(self.types.programs(), [SEGMENT])

    def test_at_most_four(self):
        programs = [(clause(start=start),) for start in range(8)]
        self.assertEqual([self.types.add(programs[k], 0) for k in range(5)], [2, 3, 4, 5, None])
        self.assertEqual((self.types.count(), self.types.programs()), (6, programs[:4]))
        self.assertEqual(self.types.add(programs[2], 0), 4)
        self.assertEqual(self.types.add(programs[4], 1), 6)
        self.assertEqual(self.types.add(programs[4], 0), 6)
        self.assertIsNone(self.types.add(programs[5], 0))

    def test_what_is_registered_by_another_does_not_count(self):
        programs = [(clause(start=start),) for start in range(8)]
        self.types.add(programs[0], 0)
        self.assertEqual([self.types.add(programs[k], 1) for k in range(6)], [2, 3, 4, 5, 6, None])

    def test_no_programs(self):
        for value in (None, 0, [], list(SEGMENT), "own", (None,), (clause(kind=True),), (clause(start=8),)):
            self.assertIsNone(self.types.add(value, 0))
        self.assertEqual(self.types.programs(), [])
        for environment in (4, -1, None):
            with self.assertRaises(NotValid):
                self.types.add(SEGMENT, environment)
        self.assertEqual(self.types.count(), 2)

    def test_returned_lists_are_the_callers(self):
        programs = self.types.programs()
        self.types.add(SEGMENT, 0)
        self.assertEqual(programs, [])
        self.types.programs().append(NODE)
        self.assertEqual(self.types.programs(), [SEGMENT])


if __name__ == "__main__":
    unittest.main()
