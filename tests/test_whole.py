"""[1]: what holds over the whole program, whatever wild environments ask for, and wherever the power is cut."""

import unittest

from unix_case import dir_of
from world_case import PASS, Wild, WorldCase, wild_world


class Whole(WorldCase):
    def act(self, world, environment, wilds, draw):
        """An act that may be anything but a cut or a packet."""
        runs = world.kernel.running()
        if draw.random() < 0.8:
            return PASS if runs is None or runs == environment else ("unit", wilds[runs].request())
        if draw.random() < 0.9:
            return ("disk", draw.randrange(50))
        return ("ask", draw.randrange(4), draw.randrange(1, 9))

    def test_what_lasts_over_cuts(self):
        """Forests stay apart; what a Unix mounts is the tree of its last sync or of the one under way."""
        mounted = 0
        for seed in range(40):
            world, environment, kind, program, draw = wild_world(seed)
            lasting = dir_of()
            for life in range(4):
                wilds = [Wild(draw, world, e) for e in range(4)]
                for _ in range(draw.choice([0, 20, 150, 400])):
                    self.play(world, self.act(world, environment, wilds, draw))
                    self.assertLessEqual(world.kernel.frames.charge(environment), world.kernel.frames.share(environment))
                trees, now = self.check_rows(world, environment, program), world.tree(environment)
                allowed = [lasting] if trees is None else [trees[-1], now]
                if trees is not None:
                    self.assertEqual(world.mounted(environment, life), lasting)
                    mounted += 1
                self.play(world, ("cut", [draw.randrange(2) for _ in range(draw.randrange(12))]))
                self.check_forests(world)
                lasting = self.lasting(world, environment, kind)
                self.assertIn(lasting, allowed)
        self.assertGreater(mounted, 60)

    def test_the_same_rows_as_if_the_others_did_nothing(self):
        """An environment that stays within its shares: the others change numbers and delays only."""
        compared = 0
        for seed in range(16):
            alone, environment, _, _, _ = wild_world(seed, None)
            alone.settle(3000)
            world, environment, _, program, draw = wild_world(seed)
            wilds = [Wild(draw, world, e) for e in range(4)]
            for _ in range(2500):
                self.play(world, self.act(world, environment, wilds, draw))
                if world.rests(environment):
                    break
            rows, wanted = world.rows(environment, 0), alone.rows(environment, 0)
            refused = [at for at, row in enumerate(rows) if row[1] == "sync" and row[2][0] == 0]
            # A sync can ask for more blocks than the share; up to there all is the same.
            many = min([len(rows), len(wanted)] + refused)
            self.assertEqual(rows[:many], wanted[:many])
            compared += many
            if world.rests(environment) and alone.rests(environment) and not refused:
                self.assertEqual((rows, world.tree(environment)), (wanted, alone.tree(environment)))
            self.check_rows(world, environment, program)
        self.assertGreater(compared, 500)

    def test_no_word_of_another(self):
        """Who is offered nothing reads no word that another environment wrote, over several lives."""
        read = 0
        for seed in range(10):
            world, environment, _, _, draw = wild_world(seed)
            for life in range(3):
                wilds = [Wild(draw, world, e, 1000000 * (e + 1)) for e in range(4)]
                for _ in range(draw.choice([100, 1000])):
                    runs = world.kernel.running()
                    act = PASS
                    if runs is not None and runs != environment and draw.random() < 0.95:
                        act = ("unit", wilds[runs].request(but=("offer", "send", "hand on")))
                    elif draw.random() < 0.5:
                        act = ("disk", draw.randrange(9))
                    self.play(world, act)
                for e in range(4):
                    for request, answer in world.answers(e):
                        read += self.check_answer(request, answer, e)
                self.play(world, ("cut", [draw.randrange(2) for _ in range(20)]))
        self.assertGreater(read, 50)

    def check_answer(self, request, answer, environment):
        """The words of an answer were written by the environment itself; how many there are."""
        if answer[0] == "no" or request[0] not in ("load", "words"):
            return 0
        words = [answer[1]] if request[0] == "load" else list(answer[1])
        great = [word for word in words if word >= 1000000]
        self.assertEqual([word // 1000000 for word in great], [environment + 1] * len(great))
        return len(great)

    def test_units_of_an_environment(self):
        """[5]: who neither gives up nor hands on runs six units of each of its slots, whatever the others do."""
        for seed in range(8):
            world, environment, _, _, draw = wild_world(seed)
            wilds = [Wild(draw, world, e) for e in range(4)]
            kept = (environment + 1) % 4
            counts = {}
            for _ in range(2000):
                place, runs = world.kernel.slices.place(), world.kernel.running()
                if place[0] == 12:
                    break
                if runs == kept:
                    counts[place[0]] = counts.get(place[0], 0) + 1
                request = ("pass",)
                if runs is not None and runs not in (kept, environment):
                    request = wilds[runs].request()
                    if isinstance(request, tuple) and request[:1] == ("hand on",):
                        request = ("hand on", runs)
                self.play(world, ("unit", request))
            owned = world._owners.count(kept)
            last = max(counts or {0: 0})
            self.assertEqual([counts[at] for at in sorted(counts) if at < last], [6 * owned] * len([at for at in counts if at < last]))

    def test_the_same_each_time(self):
        """Nothing depends on a clock or on chance."""
        for seed in range(4):
            found = []
            for _ in range(2):
                world, environment, _, _, draw = wild_world(seed)
                wilds = [Wild(draw, world, e) for e in range(4)]
                changed = []
                for _ in range(300):
                    changed += self.play(world, self.act(world, environment, wilds, draw))
                changed += self.play(world, ("cut", [1, 0, 1]))
                changed += [world.settle(300)]
                found.append((changed, world.disk.image(), [world.rows(environment, life) for life in (0, 1)],
                              [world.answers(e) for e in range(4)], world.kernel.net.sent()))
            self.assertEqual(found[0], found[1])


if __name__ == "__main__":
    unittest.main()
