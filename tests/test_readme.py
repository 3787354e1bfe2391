import doctest
import unittest
from pathlib import Path


class Readme(unittest.TestCase):
    def test_examples(self):
        path = Path(__file__).resolve().parent.parent / "README.md"
        results = doctest.testfile(str(path), module_relative=False, encoding="utf-8")
        self.assertGreater(results.attempted, 10)
        self.assertEqual(results.failed, 0)
