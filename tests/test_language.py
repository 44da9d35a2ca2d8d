"""The package keeps to its subset of Python, and its interface stands where it is told."""

import ast
import os
import unittest

from language import File, findings

FOLDER = os.path.join(os.path.dirname(os.path.dirname(os.path.abspath(__file__))), "stayhouse")


class LanguageTest(unittest.TestCase):
    def test_rules(self):
        self.assertEqual(findings(FOLDER), [])


if __name__ == "__main__":
    unittest.main()
