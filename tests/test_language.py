"""The package keeps to the rules of the language, as far as `language` knows them."""

import ast
import unittest

import language

RIGHT = """
class Box:
    def __init__(self, row):
        self.row, row.at = row, 1

    def step(self, rows):
        def inner():
            row.many = 2
        row = self.row
        row.at += 1
        inner()
        for part in rows:
            part.at = row.at
        rows[0] = self.row.at


def told(box):
    other = box.step([])
    other.at = 0
"""

WRONG = (
    "def told(turn):\n    turn.opening().offset += 1\n",
    "def told(turn):\n    turn.opening().offset = 1\n",
    "def told(turn):\n    found, turn.opening().offset = 1, 2\n    return found\n",
    "def told(turn):\n    for turn.opening().offset in range(3):\n        pass\n",
    "def told(rows):\n    rows[0].at = 1\n",
    "def told(box):\n    box.row.at = 1\n",
    "class Box:\n    def told(self):\n        self.row.at = 1\n",
    "class Box:\n    def told(self):\n        self.rows[0].at -= 1\n",
    "class Box:\n    pass\n\n\ndef told():\n    Box.at = 1\n",
    "ROWS = ()\n\n\ndef told():\n    ROWS.at = 1\n",
    "def told(box, row):\n    (box if row else row).at = 1\n",
    "def told():\n    pass\n\n\ntold.at = 1\n",
)


class Language(unittest.TestCase):
    def test_there_are_files(self):
        self.assertGreater(len(language.files()), 4)

    def test_no_breach(self):
        self.assertEqual(language.faults(), [])

    def test_attributes_through_local_names(self):
        self.assertEqual(list(language.attribute_faults(ast.parse(RIGHT))), [])

    def test_attributes_through_anything_else(self):
        for text in WRONG:
            with self.subTest(text=text):
                self.assertEqual(len(list(language.attribute_faults(ast.parse(text)))), 1)


if __name__ == "__main__":
    unittest.main()
