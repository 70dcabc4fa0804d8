"""The package keeps to the rules of the language, as far as `language` knows them."""

import unittest

import language


class Language(unittest.TestCase):
    def test_there_are_files(self):
        self.assertGreater(len(language.files()), 4)

    def test_no_breach(self):
        self.assertEqual(language.faults(), [])


if __name__ == "__main__":
    unittest.main()
