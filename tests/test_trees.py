"""[40] and [41]: trees of files and their requests."""

import copy
import random
import unittest

from steadhold.trees import ask, copied, is_request, new_tree

GOOD = [
    ("make", (), "dir"), ("make", (1, 2), "file"), ("put", (1,), 0, (0,)), ("put", (), 48, (2 ** 32 - 1,) * 48),
    ("get", (1,), 0, 0), ("get", (2 ** 32 - 1,), 48, 48), ("size", ()), ("shrink", (3,), 0), ("shrink", (3,), 48),
    ("drop", ()), ("drop", (4, 5, 6)), ("list", ()),
]
WRONG = [
    None, 3, "make", [], (), ((),), (None, ()), (1, ()), ("sync",), ("make",), ("make", (1,)), ("make", (1,), "link"),
    ("make", (1,), "dir", 0), ("make", (1,), ("dir",)), ("make", (1,), None), ("make", (1,), ["dir"]),
    ("make", [1], "dir"), ("make", 1, "dir"), ("make", (0,), "dir"), ("make", (1, 0), "dir"),
    ("make", (True,), "dir"), ("make", (2 ** 32,), "dir"), ("make", (-1,), "dir"), ("make", ("1",), "dir"),
    ("put", (1,), 0), ("put", (1,), 0, ()), ("put", (1,), 0, (1,) * 49), ("put", (1,), 0, [1]), ("put", (1,), 49, (1,)),
    ("put", (1,), -1, (1,)), ("put", (1,), True, (1,)), ("put", (1,), None, (1,)), ("put", (1,), 0, (True,)),
    ("put", (1,), 0, (2 ** 32,)), ("put", (1,), 0, (-1,)), ("put", (1,), 0, 5), ("put", (1,), 0, (1,), 2),
    ("get", (1,), 0), ("get", (1,), 0, 49), ("get", (1,), 49, 0), ("get", (1,), False, 0), ("get", (1,), 0, -1),
    ("get", (1,), 0, 0, 0), ("size",), ("size", 1), ("size", (0,)), ("size", (), ()), ("shrink", (1,)),
    ("shrink", (1,), 49), ("shrink", (1,), -1), ("shrink", (1,), True), ("shrink", (1,), "1"), ("drop",),
    ("drop", (0,)), ("drop", (1,), 0), ("list",), ("list", None), ("list", (), 1), ("List", ()), ["size", ()],
    ([], ()), ({}, ()),
]


class Forms(unittest.TestCase):
    def test_new_tree(self):
        self.assertEqual(new_tree(), {"names": {}})
        new_tree()["names"][1] = {"words": []}
        self.assertEqual(new_tree(), {"names": {}})

    def test_is_request(self):
        for value in GOOD:
            self.assertIs(is_request(value), True, value)
        for value in WRONG:
            self.assertIs(is_request(value), False, value)


class TreeCase(unittest.TestCase):
    def setUp(self):
        self.tree = new_tree()
        self.ok("make", (5,), "dir")
        self.ok("make", (5, 9), "file")
        self.ok("make", (3,), "file")
        self.ok("put", (3,), 0, (7, 8))

    def ok(self, *request):
        self.assertTrue(is_request(request), request)
        answer = ask(self.tree, request)
        self.assertEqual(answer[0], "ok", (request, answer))
        return answer[1]

    def no(self, word, *request):
        self.assertTrue(is_request(request), request)
        before = copy.deepcopy(self.tree)
        self.assertEqual(ask(self.tree, request), ("no", word), request)
        self.assertEqual(self.tree, before)


class Requests(TreeCase):
    def test_make(self):
        self.assertIsNone(self.ok("make", (5, 1), "dir"))
        self.ok("make", (5, 1, 2 ** 32 - 1), "file")
        self.assertEqual(self.tree, {"names": {
            5: {"names": {9: {"words": []}, 1: {"names": {2 ** 32 - 1: {"words": []}}}}}, 3: {"words": [7, 8]},
        }})
        for kind in ("dir", "file"):
            self.no("path", "make", (), kind)
            self.no("path", "make", (4, 1), kind)
            self.no("path", "make", (3, 1), kind)
            self.no("path", "make", (5, 9, 1), kind)
            self.no("path", "make", (3, 1, 1), kind)
            self.no("there", "make", (5,), kind)
            self.no("there", "make", (3,), kind)

    def test_what_is_not_there(self):
        for path in ((4,), (5, 4), (4, 5), (3, 1), (5, 9, 1), (3, 1, 1)):
            self.no("path", "put", path, 48, (1,))
            self.no("path", "get", path, 0, 1)
            self.no("path", "size", path)
            self.no("path", "shrink", path, 0)
            self.no("path", "drop", path)
            self.no("path", "list", path)

    def test_directories(self):
        for path in ((), (5,)):
            self.no("dir", "put", path, 48, (1, 2))
            self.no("dir", "get", path, 0, 1)
            self.no("dir", "size", path)
            self.no("dir", "shrink", path, 0)

    def test_put(self):
        self.assertIsNone(self.ok("put", (3,), 1, (1, 2, 3)))
        self.assertEqual(self.tree["names"][3]["words"], [7, 1, 2, 3])
        self.ok("put", (3,), 0, (9,))
        self.assertEqual(self.tree["names"][3]["words"], [9, 1, 2, 3])
        self.ok("put", (3,), 6, (5,))
        self.assertEqual(self.tree["names"][3]["words"], [9, 1, 2, 3, 0, 0, 5])
        self.ok("put", (5, 9), 47, (6,))
        self.assertEqual(self.tree["names"][5]["names"][9]["words"], [0] * 47 + [6])

    def test_put_up_to_word_48_and_over_it(self):
        self.no("long", "put", (3,), 48, (1,))
        self.no("long", "put", (3,), 47, (1, 2))
        self.no("long", "put", (3,), 1, (1,) * 48)
        self.ok("put", (3,), 46, (1, 2))
        self.ok("put", (3,), 0, (4,) * 48)
        self.assertEqual(self.tree["names"][3]["words"], [4] * 48)

    def test_get(self):
        self.ok("put", (3,), 0, (1, 2, 3, 4))
        self.assertEqual(self.ok("get", (3,), 1, 2), (2, 3))
        self.assertEqual(self.ok("get", (3,), 0, 48), (1, 2, 3, 4))
        self.assertEqual(self.ok("get", (3,), 3, 2), (4,))
        self.assertEqual(self.ok("get", (3,), 4, 1), ())
        self.assertEqual(self.ok("get", (3,), 48, 48), ())
        self.assertEqual(self.ok("get", (3,), 1, 0), ())
        self.assertEqual(self.ok("get", (5, 9), 0, 9), ())

    def test_size_and_shrink(self):
        self.assertEqual(self.ok("size", (3,)), 2)
        self.assertEqual(self.ok("size", (5, 9)), 0)
        self.assertIsNone(self.ok("shrink", (3,), 3))
        self.assertEqual(self.ok("size", (3,)), 2)
        self.ok("shrink", (3,), 1)
        self.assertEqual(self.tree["names"][3]["words"], [7])
        self.ok("shrink", (3,), 0)
        self.assertEqual(self.tree["names"][3]["words"], [])

    def test_drop(self):
        self.no("path", "drop", ())
        self.no("full", "drop", (5,))
        self.assertIsNone(self.ok("drop", (5, 9)))
        self.ok("drop", (5,))
        self.ok("drop", (3,))
        self.assertEqual(self.tree, new_tree())
        self.no("path", "drop", ())
        self.no("path", "drop", (3,))

    def test_list(self):
        self.assertEqual(self.ok("list", ()), (3, 5))
        self.assertEqual(self.ok("list", (5,)), (9,))
        self.ok("drop", (5, 9))
        self.assertEqual(self.ok("list", (5,)), ())
        self.no("file", "list", (3,))

    def test_nothing_that_is_passed_is_changed_or_shared(self):
        given = self.ok("get", (3,), 0, 2)
        names = self.ok("list", ())
        self.ok("put", (3,), 0, (1, 1))
        self.ok("drop", (3,))
        self.assertEqual(given, (7, 8))
        self.assertEqual(names, (3, 5))
        self.assertIsInstance(given, tuple)
        self.assertIsInstance(names, tuple)


class Copied(TreeCase):
    def test_shares_nothing(self):
        before = copy.deepcopy(self.tree)
        other = copied(self.tree)
        self.assertEqual(other, before)
        ask(other, ("put", (3,), 0, (1,)))
        ask(other, ("drop", (5, 9)))
        ask(other, ("make", (5, 8), "dir"))
        self.assertEqual(self.tree, before)
        third = copied(self.tree)
        ask(self.tree, ("put", (5, 9), 0, (1,)))
        ask(self.tree, ("make", (4,), "dir"))
        self.assertEqual(third, before)

    def test_new_and_deep_trees(self):
        self.assertEqual(copied(new_tree()), new_tree())
        tree = new_tree()
        path = ()
        for _ in range(3000):
            path += (1,)
            self.assertEqual(ask(tree, ("make", path, "dir")), ("ok", None))
        copied(tree)
        self.assertEqual(ask(tree, ("list", path[:-1])), ("ok", (1,)))


class Random(unittest.TestCase):
    """Against a flat model: a dict from paths to None, for a directory, or a list of words."""

    def model_of(self, tree, path=()):
        found = {path: list(tree["words"]) if "words" in tree else None}
        for name, part in tree.get("names", {}).items():
            found.update(self.model_of(part, path + (name,)))
        return found

    def expected(self, flat, request):
        word, path = request[0], request[1]
        if word == "make":
            if not path or flat.get(path[:-1], []) is not None:
                return ("no", "path")
            if path in flat:
                return ("no", "there")
            flat[path] = None if request[2] == "dir" else []
            return ("ok", None)
        if path not in flat or (word == "drop" and path == ()):
            return ("no", "path")
        below = sorted(other[-1] for other in flat if len(other) == len(path) + 1 and other[:-1] == path)
        words = flat[path]
        if word == "drop":
            if below:
                return ("no", "full")
            del flat[path]
            return ("ok", None)
        if word == "list":
            return ("no", "file") if words is not None else ("ok", tuple(below))
        if words is None:
            return ("no", "dir")
        return self.expected_of_file(words, request)

    def expected_of_file(self, words, request):
        if request[0] == "size":
            return ("ok", len(words))
        if request[0] == "get":
            return ("ok", tuple(words[at] for at in range(request[2], min(len(words), request[2] + request[3]))))
        if request[0] == "shrink":
            while len(words) > request[2]:
                words.pop()
            return ("ok", None)
        if request[2] + len(request[3]) > 48:
            return ("no", "long")
        for at, word in enumerate(request[3], request[2]):
            while len(words) <= at:
                words.append(0)
            words[at] = word
        return ("ok", None)

    def test_random(self):
        draw = random.Random(41)
        tree, flat, words = new_tree(), {(): None}, set()
        for _ in range(8000):
            path = tuple(draw.randrange(1, 4) for _ in range(draw.choice([0, 1, 1, 2, 2, 3])))
            word = draw.choice(["make", "make", "put", "put", "get", "size", "shrink", "drop", "list"])
            parts = {
                "make": (draw.choice(["dir", "dir", "file"]),),
                "put": (draw.choice([0, 1, 5, 40, 47, 48]), tuple(range(draw.choice([1, 2, 8, 40, 48])))),
                "get": (draw.randrange(49), draw.randrange(49)), "shrink": (draw.randrange(49),),
            }.get(word, ())
            request = (word, path, *parts)
            self.assertTrue(is_request(request))
            answer = ask(tree, request)
            self.assertEqual(answer, self.expected(flat, request))
            words.add((word, answer[1] if answer[0] == "no" else "ok"))
            self.assertEqual(self.model_of(tree), flat)
        self.assertEqual(len(words), 2 + 1 + 4 + 3 + 3 + 3 + 3 + 3, words)


if __name__ == "__main__":
    unittest.main()
