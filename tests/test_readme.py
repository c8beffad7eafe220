from doctest import testfile
from pathlib import Path
from unittest import TestCase


class Readme(TestCase):
    def test_the_examples_are_so(self):
        found = testfile(str(Path(__file__).resolve().parent.parent / "README.md"), module_relative=False)
        self.assertGreater(found.attempted, 5)
        self.assertEqual(found.failed, 0)
