"""What README.md shows."""

import doctest
import pathlib
import unittest

README = pathlib.Path(__file__).resolve().parent.parent / "README.md"


class Readme(unittest.TestCase):
    def test_examples(self):
        found = doctest.testfile(str(README), module_relative=False)
        self.assertEqual(0, found.failed)
        self.assertGreater(found.attempted, 5)


if __name__ == "__main__":
    unittest.main()
