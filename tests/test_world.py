"""[77] to [79]: the world and its acts."""

import random
import unittest

from unix_case import TOP, call, dir_of, file_of, sets, wild_program
from world_case import PASS, STRANGE, WorldCase, one_unix

from steadhold.errors import NotValid
from steadhold.frames import Frames
from steadhold.kernel import Kernel
from steadhold.world import World

WRITING = tuple(call("open", 2, 0, 7) + sets(r2=5) + [("call", "write"), ("call", "sync"), ("call", "write"), ("call", "sync")])
OTHERS = dict(blocks=64, frames=32, owners=[0, 1, 2, 3] * 2, frame_shares=[8] * 4, block_shares=[15] * 4,
              kinds=["wild", "A", None, "B"], programs=[None, WRITING, None, ()])


def world_of(**changed):
    told = dict(OTHERS, **changed)
    return World(*[told[name] for name in OTHERS])


class Beginning(WorldCase):
    def test_fields(self):
        world = world_of()
        self.assertIsInstance(world.kernel, Kernel)
        self.assertIs(world.kernel.disk, world.disk)
        self.assertEqual((world.disk.blocks, world.lives()), (64, 1))
        self.assertEqual([world.kernel.frames.share(e) for e in range(4)], [8] * 4)
        self.assertEqual(world.kernel.running(), 0)
        self.assertEqual(len(world.kernel.frames.free()), 32)

    def test_regions(self):
        world = world_of()
        for environment in range(4):
            for port in range(8):
                answer = world.kernel.request(environment, ("filter", ((0, TOP, port),)))
                self.assertEqual(answer[0], "ok" if port % 4 == environment else "no")

    def test_wrong_arguments(self):
        for name, values in (
            ("blocks", (23, 65, None, True, "24")), ("frames", (7, 65, None, True)),
            ("owners", (None, [0] * 7, [0] * 9, [4] * 8, (0,) * 8, [True] * 8)),
            ("frame_shares", (None, [8] * 3, [9] * 4, [-1] * 4, (8,) * 4, [None] * 4, [True] * 4)),
            ("block_shares", (None, [15] * 3, [16] * 4, [-1] * 4, (15,) * 4, [None] * 4, [True] * 4)),
            ("kinds", (None, ["wild", "A", None], ["wild", "A", None, "C"], ("wild", "A", None, "B"), ["wild", "A", 0, "B"],
                       ["wild", "A", None, ["B"]], ["wild", None, None, "B"], ["A", "A", None, "B"])),
            ("programs", (None, [None, WRITING, None], (None, WRITING, None, ()), [None, WRITING, None, None],
                          [None, list(WRITING), None, ()], [(), WRITING, None, ()], [None, WRITING, (), ()],
                          [None, WRITING, None, (("jump", -1),)], [None, WRITING, None, (("call", "who"),) * 601])),
        ):
            for value in values:
                with self.subTest(name=name, value=value):
                    self.assertRaises(NotValid, world_of, **{name: value})

    def test_bounds(self):
        world_of(blocks=24, frames=8, frame_shares=[2] * 4, block_shares=[5] * 4, owners=[None] * 8)
        world_of(frame_shares=[0] * 4, block_shares=[0] * 4, kinds=[None] * 4, programs=[None] * 4)

    def test_what_is_passed_can_be_changed_later(self):
        told = {name: list(value) if isinstance(value, list) else value for name, value in OTHERS.items()}
        world = World(*told.values())
        for name in ("owners", "frame_shares", "block_shares", "kinds", "programs"):
            self.assertEqual(told[name], OTHERS[name])
            told[name].clear()
        self.play(world, ("cut", []))
        self.assertEqual(world.kernel.running(), 0)
        self.settle(world, 5000)
        self.assertEqual(world.tree(1), dir_of(n7=file_of(5, 5)))


class Units(WorldCase):
    def test_nobody_runs(self):
        world = world_of(owners=[None] * 8)
        self.assertEqual(self.units(world, 3), [False] * 3)
        self.assertEqual(world.answers(0), [])

    def test_who_does_nothing_gives_up(self):
        world = world_of(owners=[2, 0, 2, 2, 2, 2, 2, 2])
        self.assertEqual(self.units(world, 1), [True])
        self.assertEqual(world.kernel.slices.place(), (0, 1, 0))
        self.assertEqual(self.units(world, 6), [True] * 6)
        self.assertEqual(world.kernel.slices.place(), (0, 2, 0))
        self.units(world, 6)
        self.assertEqual(world.kernel.slices.place(), (1, 0, 0))

    def test_a_wild_one_makes_the_request(self):
        world = world_of(owners=[0] * 8)
        self.assertEqual(self.play(world, ("unit", ("take",)), ("unit", ("who",)), ("unit", None)), [True] * 3)
        self.assertEqual(world.answers(0), [(("take",), ("ok", 0)), (("who",), ("ok", (0, 8, 1))), (None, ("no", "form"))])
        self.assertEqual(world.kernel.slices.place(), (0, 0, 3))
        self.assertEqual([world.answers(e) for e in (1, 2, 3, 4, -1)], [[]] * 5)
        world.answers(0).clear()
        self.assertEqual(len(world.answers(0)), 3)

    def test_any_request(self):
        world = world_of(owners=[0] * 8)
        self.assertEqual(world.play([("unit", request) for request in STRANGE]), [True] * len(STRANGE))
        self.assertEqual(world.answers(0), [(request, world.answers(0)[at][1]) for at, request in enumerate(STRANGE)])
        self.assertEqual({answer[0] for _, answer in world.answers(0)}, {"no"})
        self.assertEqual(world.kernel.slices.place(), (len(STRANGE) // 48, len(STRANGE) % 48 // 6, len(STRANGE) % 6))

    def test_hand_on(self):
        world = world_of(owners=[0] * 8)
        self.play(world, ("unit", ("hand on", 1)))
        self.assertEqual((world.kernel.running(), world.kernel.slices.place()), (1, (0, 0, 1)))
        # The Unix ignores the request of the act.
        self.play(world, ("unit", ("take",)))
        self.assertEqual(world.kernel.frames.charge(1), 0)
        self.assertEqual(world.answers(1), [])
        self.play(world, ("unit", ("take",)), ("unit", ("take",)), ("unit", ("take",)), ("unit", ("take",)))
        self.assertEqual(world.kernel.running(), 0)
        self.play(world, ("unit", ("hand on", 2)))
        self.play(world, PASS)
        self.assertEqual(world.kernel.slices.place(), (0, 2, 0))

    def test_a_unix_makes_one_request_in_a_unit(self):
        world = one_unix("A", [("call", "grow")])
        answers = []
        original = world.kernel.request
        world.kernel.request = lambda environment, request: answers.append(request) or original(environment, request)
        self.units(world, 1)
        self.assertEqual(answers[-1][0], "register")
        self.units(world, 1)
        self.assertEqual(answers[-1], ("fetch", 2))
        self.disk(world)
        self.units(world, 7)
        self.assertFalse(world.rests(2))
        self.units(world, 1)
        self.assertTrue(world.rests(2))
        self.assertEqual(answers[2:], [
            ("fetch", 2), ("words", 2), ("pass",), ("take",), ("map", 0, 0, "rw"), ("pass",), ("unmap", 0), ("drop", 0)])
        self.assertEqual(world.kernel.slices.place(), (0, 1, 4))
        # Now it wants nothing, and gives up.
        self.assertEqual(self.units(world, 1), [True])
        self.assertEqual((len(answers), world.kernel.slices.place()), (10, (0, 2, 0)))


class OtherActs(WorldCase):
    def test_disk(self):
        world = one_unix("A", WRITING)
        self.assertEqual(self.play(world, ("disk", 0), ("disk", 7)), [False, False])
        self.units(world, 2)
        self.assertEqual(self.play(world, ("disk", -5), ("disk", 0)), [True, False])
        self.units(world, 2)
        self.assertEqual(self.play(world, ("disk", 10 ** 30)), [False])
        while not world.disk.queue():
            self.units(world, 1)
        self.assertEqual(self.play(world, ("disk", True), ("disk", None), ("disk", "0"), ("disk", (0,))), [False] * 4)
        self.assertEqual(self.play(world, ("disk", 10 ** 30)), [True])

    def test_packets(self):
        world = world_of(owners=[0] * 8)
        packet = (4, 1, 2, 3, 4, 5)
        self.assertEqual(self.play(world, ("packet", packet)), [False])
        self.assertEqual(world.kernel.net.lost(), 1)
        self.play(world, ("unit", ("filter", ((0, 3, 0),))))
        self.assertEqual(self.play(world, *[("packet", packet)] * 9), [True] * 8 + [False])
        self.assertEqual(world.kernel.net.lost(), 2)
        self.assertEqual(self.play(world, ("packet", (5,) + packet[1:])), [False])
        self.play(world, ("unit", ("next", 1)))
        self.assertEqual(world.answers(0)[-1][1], ("ok", packet))
        lost = world.kernel.net.lost()
        for wrong in (packet[:5], list(packet), None, (-1,) + packet[1:], (True,) + packet[1:], (TOP + 1,) + packet[1:]):
            self.assertEqual(self.play(world, ("packet", wrong)), [False])
        self.assertEqual(world.kernel.net.lost(), lost)

    def test_ask(self):
        world = world_of(owners=[0] * 8, frame_shares=[1, 0, 0, 0])
        self.units(world, 4, ("take",))
        self.assertEqual(self.play(world, ("ask", 0, 2)), [True])
        self.units(world, 1, ("asked",))
        self.assertEqual(world.answers(0)[-1][1], ("ok", 2))
        self.units(world, 6, ("taken",))
        self.assertEqual(world.answers(0)[-1][1], ("ok", ()))
        self.units(world, 2, ("taken",))
        self.assertEqual(world.answers(0)[-1][1], ("ok", (3, 2)))
        for wrong in ((4, 1), (-1, 1), (0, 0), (0, -1), (True, 1), (0, True), (None, 1), (0, None), ("0", 1)):
            self.assertEqual(self.play(world, ("ask", *wrong)), [False])
        self.assertEqual(self.play(world, ("ask", 3, 10 ** 9), ("ask", 0, 1)), [True, True])

    def test_a_unix_is_asked_in_vain(self):
        world = one_unix("A", [("call", "grow")] * 3 + [("call", "pipe"), ("call", "read")], share=4, owners=[2, None] * 4)
        self.settle(world)
        self.assertEqual(world.kernel.frames.charge(2), 4)
        self.play(world, ("ask", 2, 3))
        self.units(world, 100)
        self.assertEqual((world.kernel.frames.charge(2), world.kernel.frames.taken(2)), (4, []))

    def test_values_that_are_no_acts(self):
        world = world_of()
        for act in (None, 5, "unit", (), ("unit",), ("unit", ("pass",), 1), ["unit", ("pass",)], ("units", ("pass",)), (None, 1), (5,),
                    ("disk",), ("disk", 0, 0), ("packet",), ("packet", (0,) * 6, 1), ("ask", 0), ("ask", 0, 1, 1), ("cut",),
                    ("cut", [], []), ("settle", 5), ((), ())):
            self.assertEqual(self.play(world, act), [False], act)
        self.assertEqual((world.kernel.slices.place(), world.lives()), ((0, 0, 0), 1))

    def test_no_acts(self):
        self.assertEqual(world_of().play([]), [])

    def test_acts_are_not_changed(self):
        acts, choices = [PASS, ("cut", [1, 2])], [1, 2]
        world_of().play(acts)
        self.assertEqual(acts, [PASS, ("cut", choices)])


class Cuts(WorldCase):
    def test_everything_begins_anew(self):
        world = world_of(owners=[0] * 8)
        kernel, disk, types = world.kernel, world.disk, world.kernel.blocks.types
        self.play(world, ("unit", ("take",)), ("unit", ("register", ())), ("unit", ("filter", ())), ("packet", (0,) * 6), ("ask", 0, 5))
        self.assertEqual(self.play(world, ("cut", [])), [True])
        self.assertIsNot(world.kernel, kernel)
        self.assertIs(world.disk, disk)
        self.assertIs(world.kernel.disk, disk)
        self.assertIs(world.kernel.blocks.types, types)
        self.assertEqual(types.programs(), [()])
        self.assertEqual((world.lives(), world.answers(0), world.kernel.slices.place()), (2, [], (0, 0, 0)))
        self.assertEqual((world.kernel.frames.charge(0), world.kernel.net.filters(), world.kernel.frames.asked(0)), (0, [], 0))

    def test_the_disk_keeps_what_is_chosen(self):
        for choices, words in (([0], 0), ([1], 9), ([], 0), ([2, 1], 0), ([-1], 9), ([3, 3, 3], 9)):
            world = world_of(owners=[0] * 8)
            self.play(world, *[("unit", request) for request in (
                ("register", (((), 1, 1, 0),)), ("reserve",), ("fill", 4, 2), ("alter", ((4, (9,) + (0,) * 7),)), ("flush", 4))])
            self.assertEqual(len(world.disk.queue()), 1)
            self.play(world, ("cut", choices))
            self.assertEqual((world.disk.words(4)[0], world.disk.queue()), (words, []))

    def test_wrong_choices(self):
        world = world_of()
        for choices in (None, (), (1,), 1, "1", [None], [True], [1, "1"], {}):
            self.assertEqual(self.play(world, ("cut", choices)), [False])
        self.assertEqual(world.lives(), 1)

    def test_types_stay(self):
        """The types of both libraries are registered once, in whatever life."""
        world = world_of()
        self.settle(world)
        programs = world.kernel.blocks.types.programs()
        self.assertEqual(len(programs), 2)
        for _ in range(6):
            self.play(world, ("cut", []))
            self.settle(world)
        self.assertEqual(world.kernel.blocks.types.programs(), programs)

    def test_the_program_runs_anew(self):
        for kind in "AB":
            world = one_unix(kind, WRITING)
            for life in range(3):
                self.settle(world)
                self.assertEqual(world.tree(2), dir_of(n7=file_of(*[5] * (2 * life + 2))))
                self.assertEqual(world.mounted(2, life), dir_of(n7=file_of(*[5] * (2 * life))) if life else dir_of())
                self.assertEqual(self.lasting(world, 2, kind), world.tree(2))
                self.play(world, ("cut", []))
            self.assertEqual([len(world.rows(2, life)) for life in range(5)], [10, 10, 10, 0, 0])

    def test_at_every_moment(self):
        """Of mounts and syncs: what is mounted next is the tree of the last sync, or of the one under way."""
        for kind in "AB":
            seen = []
            for moment in range(0, 400, 1):
                world = one_unix(kind, WRITING)
                self.settle(world)
                old = world.tree(2)
                self.play(world, ("cut", []))
                # The disk is slow, so that several writes wait.
                for count in range(moment):
                    self.units(world, 1)
                    if count % 5 == 4 and len(world.disk.queue()) > (count // 25) % 4:
                        self.play(world, ("disk", count))
                rests = world.rests(2)
                trees = self.check_rows(world, 2, WRITING)
                allowed = [old] if trees is None else [trees[-1], world.tree(2)]
                many = len(world.disk.queue())
                self.play(world, ("cut", [moment // (at + 1) for at in range(many)]))
                self.check_forests(world)
                self.assertIn(self.lasting(world, 2, kind), allowed)
                found = self.lasting(world, 2, kind)
                while world.mounted(2, 2) is None:
                    world.settle(1)
                self.assertEqual(world.mounted(2, 2), found)
                seen.append(len(found["names"][7]["words"]))
                if rests:
                    break
            self.assertEqual(sorted(set(seen)), [2, 3, 4])
            self.assertTrue(rests)


class Settling(WorldCase):
    def test_no_unix(self):
        world = world_of(kinds=["wild", None, None, "wild"], programs=[None] * 4, owners=[0] * 8)
        for rounds in (0, 5):
            self.assertIs(world.settle(rounds), True)
        self.assertEqual(world.answers(0), [])

    def test_unixes_that_rest_already(self):
        world = one_unix("A", ())
        self.settle(world)
        place = world.kernel.slices.place()
        self.assertIs(world.settle(50), True)
        self.assertIs(world.settle(0), True)
        self.assertEqual(world.kernel.slices.place(), place)

    def test_too_few_rounds(self):
        world = one_unix("B", ())
        self.assertIs(world.settle(0), False)
        self.assertEqual(world.kernel.slices.place(), (0, 0, 0))
        seen = [world.settle(1) for _ in range(5)]
        # Register, fetch twice as the read waits, words, and the pass of the exit.
        self.assertEqual(seen, [False] * 4 + [True])
        self.assertEqual(world.kernel.slices.place(), (0, 0, 5))

    def test_one_unit_in_a_round(self):
        world = world_of(owners=[0, 1, 2, 3] * 2, kinds=["wild", "A", None, "B"])
        world.settle(8)
        self.assertEqual(world.answers(0), [(("pass",), ("ok", None))] * 6)
        self.assertEqual(world.kernel.slices.place(), (0, 1, 2))

    def test_the_disk_does_all_that_waits(self):
        world = one_unix("A", WRITING)
        many = []
        while not world.settle(1):
            many.append(len(world.disk.queue()))
        self.assertLessEqual(max(many), 1)

    def test_nobody_runs(self):
        world = one_unix("A", (), owners=[None] * 8)
        self.assertIs(world.settle(100), False)
        self.assertIsNone(world.tree(2))

    def test_a_slot_that_is_not_owned(self):
        world = one_unix("A", (), owners=[0] * 8)
        self.assertIs(world.settle(100), False)

    def test_all_unixes(self):
        world = world_of()
        self.settle(world)
        self.assertEqual([world.rests(environment) for environment in range(5)], [False, True, False, True, False])


class Looking(WorldCase):
    def test_lives(self):
        world = one_unix("A", WRITING)
        self.settle(world)
        rows, tree = world.rows(2, 0), world.tree(2)
        self.play(world, ("cut", []))
        self.assertEqual((world.lives(), world.rows(2, 0), world.rows(2, 1)), (2, rows, []))
        self.assertEqual((world.mounted(2, 0), world.mounted(2, 1), world.tree(2), world.rests(2)), (dir_of(), None, None, False))
        while world.mounted(2, 1) is None:
            world.settle(1)
        self.assertEqual((world.tree(2), world.mounted(2, 1), world.rests(2)), (tree, tree, False))
        self.settle(world)
        self.assertEqual((world.rows(2, 0), world.mounted(2, 1)), (rows, tree))
        self.assertEqual(world.tree(2), dir_of(n7=file_of(5, 5, 5, 5)))

    def test_lives_and_environments_that_are_not(self):
        world = world_of()
        self.settle(world)
        for environment, life in ((1, 1), (1, -1), (0, 0), (2, 0), (4, 0), (-1, 0)):
            self.assertEqual(world.rows(environment, life), [])
            self.assertIsNone(world.mounted(environment, life))
        for environment in (0, 2, 4, -1):
            self.assertIsNone(world.tree(environment))
            self.assertIs(world.rests(environment), False)
            self.assertEqual(world.answers(environment), [] if environment != 0 else world.answers(0))

    def test_what_is_returned_is_not_changed_later(self):
        world = one_unix("A", WRITING)
        self.settle(world)
        self.play(world, ("cut", []))
        while len(world.rows(2, 1)) < 6:
            world.settle(1)
        found = world.rows(2, 1), world.tree(2), world.mounted(2, 1)
        before = list(found[0]), dir_of(n7=file_of(*found[1]["names"][7]["words"])), dir_of(n7=file_of(5, 5))
        self.settle(world)
        self.assertEqual(found, before)
        for value in (world.rows(2, 1), world.tree(2)["names"], world.mounted(2, 1)["names"], world.rows(2, 0)):
            value.clear()
        self.assertEqual((len(world.rows(2, 1)), world.mounted(2, 1)), (10, dir_of(n7=file_of(5, 5))))
        self.assertEqual(world.tree(2), dir_of(n7=file_of(5, 5, 5, 5)))

    def test_a_resting_unix_with_processes(self):
        world = one_unix("A", [("call", "pipe"), ("call", "read")])
        self.settle(world)
        self.assertTrue(world.rests(2))
        self.assertEqual([row[1] for row in world.rows(2, 0)], ["pipe"])
        self.units(world, 10)
        self.assertEqual(world.kernel.frames.charge(2), 1)


class Together(WorldCase):
    def test_two_unixes_and_packets(self):
        """One Unix in each environment; each gets the packets of its region."""
        programs = [tuple(call("receive", 8 + e) + [("if", 0, 4), ("jump", 0)] + call("send", 7, e)) for e in range(4)]
        world = world_of(kinds=["A", "B", "A", "B"], programs=programs)
        self.assertIs(world.settle(400), False)
        self.assertEqual(self.play(world, *[("packet", (8 + e, 50 + e, 9, 9, 9, 9)) for e in range(4)]), [True] * 4)
        self.settle(world)
        for e in range(4):
            self.assertIn((1, "receive", (1, 50 + e, 9, 0, 0, 0)), world.rows(e, 0))
        self.assertEqual(sorted(world.kernel.net.sent()), [(7, e, 0, 0, 0, 0) for e in range(4)])

    def test_wild_programs(self):
        for seed in range(6):
            programs = [wild_program(4 * seed + e, 80) for e in range(4)]
            world = World(64, 32, [0, 1, 2, 3] * 2, [8] * 4, [15] * 4, ["A", "B", "B", "A"], programs)
            draw = random.Random(seed)
            for _ in range(30):
                world.settle(60)
                if draw.random() < 0.2:
                    self.play(world, ("cut", [draw.randrange(2) for _ in range(8)]))
                    self.check_forests(world)
            for life in range(world.lives()):
                for e in range(4):
                    self.check_rows(world, e, programs[e], life)

    def test_frames_are_those_of_the_kernel(self):
        self.assertIsInstance(world_of().kernel.frames, Frames)


if __name__ == "__main__":
    unittest.main()
