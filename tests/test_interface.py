"""The interface: each name is defined in the file, and each method in the class, under which it is listed."""

import ast
import importlib
import unittest

import language

# For each file its functions, its plain values, and its classes with their methods; a number tells the arguments.
INTERFACE = {
    "errors": {"SteadError": {}, "NotValid": {}},
    "slices": {
        "SLOTS": None, "UNITS": None, "ENVIRONMENTS": None,
        "Slices": {"__init__": 1, "running": 0, "place": 0, "pass_unit": 0, "give_up": 0, "hand_on": 1},
    },
    "frames": {
        "WORDS": None, "TOP": None, "PATIENCE": None, "is_word": 1,
        "Frames": {
            "__init__": 2, "take": 1, "offer": 4, "accept": 3, "drop": 2, "narrow": 2, "right": 2, "holdings": 1,
            "charge": 1, "share": 1, "left": 0, "free": 0, "read": 2, "write": 3, "ask_back": 2, "asked": 1,
            "slot_ended": 1, "taken": 1,
        },
    },
    "pages": {
        "PAGES": None,
        "Pages": {
            "__init__": 1, "map": 4, "unmap": 2, "entry": 2, "load": 3, "store": 4, "ended": 2, "narrowed": 2,
        },
    },
    "filters": {"FIELDS": None, "is_packet": 1, "is_filter": 1, "meets": 2, "common": 2},
    "merged": {"EMPTY": None, "with_filter": 3, "without_filter": 3, "found": 2, "tree_of": 1},
    "net": {
        "RING": None,
        "Net": {
            "__init__": 1, "enroll": 2, "come": 1, "next": 2, "give_up": 2, "filters": 0, "ring": 1, "send": 1,
            "sent": 0, "lost": 0,
        },
    },
    "disk": {
        "is_words": 1, "disk_from": 1,
        "Disk": {"__init__": 1, "words": 1, "queue": 0, "waits": 1, "add": 1, "do": 1, "cut": 1, "image": 0},
    },
    "owning": {
        "MOST_TYPES": None, "is_program": 2, "run_program": 4,
        "Types": {"__init__": 1, "add": 2, "is_known": 1, "count": 0, "owned": 2, "programs": 0},
    },
    "blocks": {
        "Blocks": {
            "__init__": 3, "request": 2, "do": 1, "lasting_forest": 1, "memory_forest": 1, "charged": 1, "free": 0,
            "reserved": 1, "is_fresh": 1,
        },
    },
    "kernel": {
        "Kernel": {
            "__init__": 7, "request": 2, "unit_passed": 0, "gave_up": 0, "running": 0, "disk_does": 1,
        },
    },
    "machines": {
        "Stack": {"__init__": 1, "step": 2, "ended": 0, "value": 0},
        "Value": {"__init__": 1, "request": 0, "accept": 1},
        "Requests": {"__init__": 1, "request": 0, "accept": 1},
    },
    "trees": {"new_tree": 0, "is_request": 1, "ask": 2, "copied": 1},
    "afiles": {
        "NODE": None, "tree_at": 2,
        "MountA": {"__init__": 1, "request": 0, "accept": 1},
        "AFiles": {"ask": 1},
    },
    "segments": {"written": 1, "deeds_of": 1, "image_of": 1, "tree_of": 1, "parts_of": 1},
    "bfiles": {
        "SEGMENT": None, "stream_of": 2,
        "MountB": {"__init__": 1, "request": 0, "accept": 1},
        "BFiles": {"ask": 1},
    },
    "checks": {"forests": 2, "tree_of_a": 2, "tree_of_b": 2, "unreached": 2},
    "programs": {"REGISTERS": None, "NAMES": None, "is_program": 1, "instruction_at": 2, "plain_step": 3},
    "memory": {
        "Memory": {
            "__init__": 1, "pages": 1, "users": 1, "held": 0, "is_full": 0, "note_taken": 0, "note_dropped": 0,
        },
        "Read": {"__init__": 3, "request": 0, "accept": 1},
        "Write": {"__init__": 4, "request": 0, "accept": 1},
        "Grow": {"__init__": 2, "request": 0, "accept": 1},
        "Fork": {"__init__": 3, "request": 0, "accept": 1},
        "Clear": {"__init__": 2, "request": 0, "accept": 1},
    },
    "pipes": {
        "Pipes": {"__init__": 1, "size": 1, "is_there": 1},
        "Make": {"__init__": 1, "request": 0, "accept": 1},
        "Put": {"__init__": 3, "request": 0, "accept": 1},
        "Take": {"__init__": 2, "request": 0, "accept": 1},
        "End": {"__init__": 2, "request": 0, "accept": 1},
    },
    "processes": {
        "SLOTS": None, "ENDS": None,
        "Process": {"__init__": 3},
        "Opening": {"__init__": 4},
        "Table": {
            "__init__": 0, "at": 1, "put": 2, "remove": 1, "least_slot": 0, "next_number": 0, "opening": 1, "add": 1,
            "users": 1, "leads": 2, "close": 2, "free_ends": 1, "children": 1,
        },
    },
    "calls": {"Turn": {"__init__": 2, "request": 0, "accept": 1}},
    "unix": {
        "Unix": {"__init__": 4, "rows": 0, "is_resting": 0},
        "Running": {"__init__": 1, "request": 0, "accept": 1},
    },
    "plain": {"Plain": {"__init__": 2, "turn": 1, "is_resting": 0, "tree": 0, "copied": 0}},
    "judge": {"first_fault": 3, "tree_behind": 3, "tree_at_sync": 4},
    "shell": {"is_script": 1, "compiled": 1, "plain_run": 2},
    "world": {
        "World": {
            "__init__": 7, "play": 1, "settle": 1, "lives": 0, "rows": 2, "tree": 1, "mounted": 2, "answers": 1,
            "rests": 1,
        },
    },
}


def many_arguments(function):
    args = function.args
    assert not (args.vararg or args.kwarg or args.kwonlyargs or args.posonlyargs)
    return len(args.args)


class Interface(unittest.TestCase):
    def test_files(self):
        for name, listed in INTERFACE.items():
            tree = language.tree_of(language.PACKAGE / f"{name}.py")
            nodes = {node.name: node for node in tree.body if isinstance(node, (ast.FunctionDef, ast.ClassDef))}
            values = language.defined_names(tree)
            for word, told in listed.items():
                with self.subTest(file=name, word=word):
                    self.assertIn(word, values)
                    if isinstance(told, int):
                        self.assertEqual(many_arguments(nodes[word]), told)
                    elif isinstance(told, dict):
                        self.check_class(nodes[word], told)

    def check_class(self, node, methods):
        parts = {part.name: part for part in node.body if isinstance(part, ast.FunctionDef)}
        for name, many in methods.items():
            self.assertIn(name, parts)
            self.assertEqual(many_arguments(parts[name]), many + 1, name)

    def test_modules_can_be_imported(self):
        for name in INTERFACE:
            importlib.import_module(f"steadhold.{name}")


if __name__ == "__main__":
    unittest.main()
