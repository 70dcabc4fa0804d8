"""[74] to [76]: scripts, what they do to files, and their programs."""

import random
import unittest

from unix_case import TOP, dir_of, file_of

from steadhold.judge import first_fault
from steadhold.plain import Plain
from steadhold.programs import is_program
from steadhold.shell import compiled, is_script, plain_run
from steadhold.trees import new_tree
from steadhold.world import World

ROW = list(range(30, 0, -3)) + [TOP, 0]


def tree_of(files):
    return {"names": {name: {"words": list(words)} for name, words in files.items()}}


def files_of(tree):
    return {name: part["words"] for name, part in tree["names"].items()}


def run_on_plain(script, files):
    """The plain Unix behind the script's program."""
    plain = Plain(compiled(script), tree_of(files))
    for _ in range(100000):
        if plain.is_resting():
            return plain
        plain.turn(None)
    raise AssertionError("the program does not end")


class ShellCase(unittest.TestCase):
    def check(self, script, files, wanted=None):
        """The program does what the plain meaning is; nobody is left."""
        self.assertTrue(is_script(script), script)
        given = {name: list(words) for name, words in files.items()}
        behind = plain_run(script, files)
        self.assertEqual(files, given)
        if wanted is not None:
            self.assertEqual(behind, wanted)
        program = compiled(script)
        self.assertTrue(is_program(program))
        plain = run_on_plain(script, files)
        self.assertEqual(files_of(plain.tree()), behind)
        self.assertEqual([plain.table.at(slot) for slot in range(4)], [None] * 4)
        self.assertEqual(plain.pipes, {})

    def written(self, *commands, words=ROW):
        """What the last command writes behind the first one's reading these."""
        files = {1: list(words)}
        script = ((1, commands, "anew", 2),)
        self.check(script, files)
        return plain_run(script, files)[2]


class Commands(ShellCase):
    def test_echo(self):
        self.assertEqual(self.written(("echo", ())), [])
        self.assertEqual(self.written(("echo", (5, 0, TOP, 1, 2, 3))), [5, 0, TOP, 1, 2, 3])

    def test_cat(self):
        self.assertEqual(self.written(("cat",)), ROW)
        self.assertEqual(self.written(("cat",), words=[]), [])
        self.assertEqual(self.written(("cat",), words=range(48)), list(range(48)))

    def test_count(self):
        for many in (0, 1, 8, 9, 48):
            self.assertEqual(self.written(("count",), words=[TOP] * many), [many])

    def test_sum(self):
        self.assertEqual(self.written(("sum",), words=[]), [0])
        self.assertEqual(self.written(("sum",), words=[5, 6]), [11])
        self.assertEqual(self.written(("sum",), words=[TOP, 1]), [0])
        self.assertEqual(self.written(("sum",), words=[TOP] * 48), [2 ** 32 - 48])

    def test_head(self):
        for many in (0, 1, 8, 12, 13, 20):
            self.assertEqual(self.written(("head", many)), ROW[:many])
        self.assertEqual(self.written(("head", 20), words=range(48)), list(range(20)))
        self.assertEqual(self.written(("head", 3), words=[]), [])

    def test_below(self):
        self.assertEqual(self.written(("below", 9)), [6, 3, 0])
        self.assertEqual(self.written(("below", 0)), [])
        self.assertEqual(self.written(("below", TOP)), [word for word in ROW if word != TOP])
        self.assertEqual(self.written(("below", 1), words=[0] * 48), [0] * 48)

    def test_twice(self):
        self.assertEqual(self.written(("twice",), words=[4, 5]), [4, 4, 5, 5])
        self.assertEqual(self.written(("twice",), words=range(48)), [word // 2 for word in range(48)])
        self.assertEqual(self.written(("twice",), words=[]), [])

    def test_two_and_three_commands(self):
        self.assertEqual(self.written(("below", 20), ("head", 2)), [18, 15])
        self.assertEqual(self.written(("twice",), ("twice",), ("count",)), [48])
        self.assertEqual(self.written(("twice",), ("sum",), ("twice",), words=[1, 2]), [6, 6])
        self.assertEqual(self.written(("cat",), ("cat",), ("cat",), words=range(48)), list(range(48)))
        self.assertEqual(self.written(("twice",), ("twice",), ("head", 20), words=range(48)), [at // 4 for at in range(20)])
        self.assertEqual(self.written(("head", 0), ("count",), ("cat",)), [0])

    def test_who_reads_no_further(self):
        for last in (("head", 0), ("head", 3), ("echo", (7,)), ("echo", ())):
            for first in (("cat",), ("twice",), ("below", TOP), ("sum",), ("count",), ("echo", (1, 2, 3))):
                for middle in ((), (("cat",),), (("echo", (4,)),), (("twice",),)):
                    self.written(first, *middle, last, words=range(48))


class Files(ShellCase):
    def test_sources(self):
        self.check(((0, (("cat",),), "anew", 2),), {1: [5]}, {1: [5], 2: []})
        self.check(((9, (("cat",),), "anew", 2),), {1: [5]}, {1: [5], 2: []})
        self.check(((9, (("cat",), ("count",)), "anew", 2),), {1: [5]}, {1: [5], 2: [0]})
        self.check(((TOP, (("cat",),), "anew", 2),), {TOP: [5]}, {TOP: [5], 2: [5]})
        self.check(((1, (("echo", (3,)),), "anew", 2),), {1: [5]}, {1: [5], 2: [3]})

    def test_anew_and_behind(self):
        for mode, wanted in (("anew", [5, 6]), ("behind", [1, 2, 3, 5, 6])):
            self.check(((1, (("cat",),), mode, 2),), {1: [5, 6], 2: [1, 2, 3]}, {1: [5, 6], 2: wanted})
            self.check(((1, (("cat",),), mode, 2),), {1: [5, 6]}, {1: [5, 6], 2: [5, 6]})
            self.check(((1, (("cat",), ("cat",)), mode, TOP),), {1: [5, 6]}, {1: [5, 6], TOP: [5, 6]})

    def test_nothing_written(self):
        for mode, wanted in (("anew", []), ("behind", [1])):
            self.check(((0, (("cat",),), mode, 2),), {2: [1]}, {2: wanted})
            self.check(((0, (("cat",),), mode, 2),), {}, {2: []})
            self.check(((0, (("echo", (4,)), ("head", 0)), mode, 2),), {2: [1]}, {2: wanted})

    def test_none(self):
        for commands in ((("cat",),), (("cat",), ("twice",)), (("echo", (1, 2)), ("cat",), ("sum",))):
            self.check(((1, commands, "none", 0),), {1: [5] * 48}, {1: [5] * 48})

    def test_48_words(self):
        many = [7] * 30
        self.check(((1, (("twice",),), "anew", 2),), {1: many}, {1: many, 2: [7] * 48})
        for before in (0, 17, 18, 19, 47, 48):
            old = [3] * before
            self.check(((1, (("cat",),), "behind", 2),), {1: many, 2: old}, {1: many, 2: (old + many)[:48]})
            self.check(((1, (("cat",), ("cat",), ("cat",)), "behind", 2),), {1: many, 2: old}, {1: many, 2: (old + many)[:48]})

    def test_several_pipelines(self):
        script = (
            (0, (("echo", (4, 9, 2)),), "anew", 1),
            (1, (("twice",),), "behind", 2),
            (2, (("below", 5), ("sum",)), "behind", 1),
            (1, (("cat",),), "anew", 2),
            (2, (("count",),), "none", 0),
            (3, (("count",),), "behind", 2),
        )
        self.check(script, {}, {1: [4, 9, 2, 12], 2: [4, 9, 2, 12, 0]})
        self.check(script, {2: [0]}, {1: [4, 9, 2, 12], 2: [4, 9, 2, 12, 0]})

    def test_no_pipelines(self):
        self.check((), {1: [4]}, {1: [4]})

    def test_returned_files_are_new(self):
        files = {1: [4]}
        behind = plain_run(((1, (("cat",),), "anew", 2),), files)
        behind[1].append(5)
        behind[2].append(6)
        self.assertEqual((files, behind), ({1: [4]}, {1: [4, 5], 2: [4, 6]}))

    def test_a_directory_in_place_of_a_file(self):
        """Not told by the plain meaning, but nobody waits for ever."""
        for script in (((1, (("cat",),), "anew", 2),), ((2, (("cat",), ("cat",)), "anew", 1),), ((2, (("cat",),), "behind", 1),)):
            plain = Plain(compiled(script), dir_of(n1=dir_of(), n2=file_of(4)))
            while not plain.is_resting():
                plain.turn(None)
            self.assertEqual(plain.table.running(), [])
            self.assertEqual(plain.tree()["names"][1], dir_of())


class Scripts(unittest.TestCase):
    def test_scripts(self):
        for pipeline in (
            (0, (("cat",),), "none", 0), (TOP, (("cat",),), "anew", 1), (1, (("cat",),), "behind", TOP),
            (0, (("echo", ()), ("echo", (0, 1, 2, 3, 4, TOP)), ("count",)), "none", 0), (0, (("sum",),), "none", 0),
            (0, (("head", 0), ("head", 20), ("twice",)), "none", 0), (0, (("below", 0), ("below", TOP)), "none", 0),
            (5, (("cat",),), "none", 0),
        ):
            self.assertIs(is_script((pipeline,)), True, pipeline)
            self.assertIs(is_script((pipeline,) * 3), True)
        self.assertIs(is_script(()), True)

    def test_values_that_are_no_scripts(self):
        good = (1, (("cat",),), "anew", 2)
        for value in (None, 5, "x", [good], {}, (good, 5), (good, None), good, (list(good),), ((),), (good[:3],), (good + (1,),)):
            self.assertIs(is_script(value), False, value)
        for at, parts in (
            (0, (-1, TOP + 1, True, False, None, "1", (1,), [1], 2)),
            (1, ((), [], None, ("cat",), [("cat",)], (("cat",),) * 4, 5, "cat")),
            (2, ("", "new", None, 0, 1, ["anew"], "none", True, ("anew",))),
            (3, (0, -1, TOP + 1, True, None, "2", 1, [2])),
        ):
            for part in parts:
                pipeline = good[:at] + (part,) + good[at + 1:]
                self.assertIs(is_script((pipeline,)), False, pipeline)
        for pipeline in (
            (1, (("cat",),), "none", 2), (1, (("cat",),), "none", True), (1, (("cat",),), "none", False),
            (True, (("cat",),), "none", 0), (False, (("cat",),), "none", 0), (0, (("cat",),), "behind", 0), (1, (("cat",),), "none", None),
        ):
            self.assertIs(is_script((pipeline,)), False, pipeline)

    def test_values_that_are_no_commands(self):
        for command in (
            None, 5, "cat", (), ["cat"], ("dog",), (5,), (None,), (["cat"],), ("cat", 1), ("count", ()), ("sum", 0), ("twice", None),
            ("echo",), ("echo", 5), ("echo", [5]), ("echo", (1,) * 7), ("echo", (-1,)), ("echo", (TOP + 1,)), ("echo", (True,)),
            ("echo", (None,)), ("echo", (1,), 2), ("echo", "ab"), ("head",), ("head", -1), ("head", 21), ("head", True), ("head", None),
            ("head", "1"), ("head", 1, 1), ("head", (1,)), ("below",), ("below", -1), ("below", TOP + 1), ("below", False), ("below", (1,)),
            ("below", 1, 2),
        ):
            self.assertIs(is_script(((0, (command,), "none", 0),)), False, command)
            self.assertIs(is_script(((0, (("cat",), command), "none", 0),)), False, command)


def wild_command(draw):
    word = draw.choice(["echo", "cat", "count", "sum", "head", "below", "twice"])
    if word == "echo":
        return (word, tuple(draw.choice([draw.randrange(9), draw.randrange(2 ** 32)]) for _ in range(draw.randrange(7))))
    if word == "head":
        return (word, draw.randrange(21))
    return (word, draw.choice([0, 5, 20, TOP])) if word == "below" else (word,)


def wild_script(draw, most=8):
    pipelines = []
    for _ in range(draw.randrange(most + 1)):
        source, mode = draw.randrange(5), draw.choice(["none", "anew", "behind", "behind"])
        target = 0 if mode == "none" else draw.choice([name for name in range(1, 5) if name != source])
        pipelines.append((source, tuple(wild_command(draw) for _ in range(draw.randrange(1, 4))), mode, target))
    return tuple(pipelines)


class Programs(ShellCase):
    def test_wild_scripts(self):
        for seed in range(150):
            draw = random.Random(seed)
            files = {name: [draw.randrange(40) for _ in range(draw.choice([0, 1, 8, 9, 30, 47, 48]))]
                     for name in range(1, 5) if draw.random() < 0.6}
            self.check(wild_script(draw), files)

    def test_a_process_for_each_command(self):
        script = ((1, (("cat",), ("twice",), ("sum",)), "anew", 2), (1, (("cat",), ("cat",)), "none", 0), (0, (("cat",),), "none", 0))
        plain, rows = Plain(compiled(script), tree_of({1: [1, 2]})), []
        while not plain.is_resting():
            row = plain.turn(None)
            rows += [(row[1], row[2][0])] if row else []
        self.assertEqual([rows.count((name, 1)) for name in ("fork", "pipe", "wait")], [6, 3, 6])
        self.assertEqual([rows.count((name, 0)) for name in ("fork", "pipe")], [0, 0])

    def test_too_long_a_script(self):
        pipeline = (1, (("echo", (1,) * 6), ("echo", (1,) * 6), ("echo", (1,) * 6)), "anew", 2)
        seen = []
        for many in range(1, 30):
            program = compiled((pipeline,) * many)
            seen.append(program is not None)
            if program is not None:
                self.assertLessEqual(len(program), 600)
                self.assertTrue(is_program(program))
        self.assertEqual(seen, sorted(seen, reverse=True))
        self.assertIs(seen[4], True)
        self.assertIs(seen[-1], False)
        self.assertIsNone(compiled(((0, (("cat",),), "none", 0),) * 601))

    def test_the_longest_script(self):
        pipeline = (1, (("cat",), ("twice",)), "behind", 2)
        many = max(many for many in range(1, 60) if compiled((pipeline,) * many) is not None)
        self.check((pipeline,) * many, {1: [7]})

    def test_on_a_unix(self):
        for seed in range(12):
            draw = random.Random(seed)
            script = ((0, (("echo", (3, 4, 5, 6)), ("twice",)), "anew", 1),) + wild_script(draw, 5)
            program, kind = compiled(script), "AB"[seed % 2]
            # Two frames, for two pipes, are enough.
            world = World(24, 8, [3] * 8, [0, 0, 0, 2], [0, 0, 0, 12], [None, None, None, kind], [None, None, None, program])
            self.assertTrue(world.settle(30000))
            self.assertEqual(files_of(world.tree(3)), plain_run(script, {}))
            self.assertEqual(first_fault(program, new_tree(), world.rows(3, 0)), -1)
            self.assertEqual(world.rows(3, 0)[-1][:2], (1, "exit"))

    def test_without_room(self):
        """Nobody waits for ever, even if no pipe can be made."""
        for seed in range(30):
            draw = random.Random(seed)
            script = wild_script(draw)
            plain = Plain(compiled(script), tree_of({1: [4] * 20, 2: [5]}))
            for _ in range(100000):
                if plain.is_resting():
                    break
                plain.turn(draw.choice([None, True]))
            self.assertEqual(plain.table.running(), [])


if __name__ == "__main__":
    unittest.main()
