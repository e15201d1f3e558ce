"""The examples of DOC.md, where it stands beside the project."""

import doctest
import pathlib
import unittest

DOC = pathlib.Path(__file__).resolve().parent.parent.parent / "shared" / "DOC.md"


class Doc(unittest.TestCase):
    @unittest.skipUnless(DOC.exists(), "DOC.md is not here")
    def test_examples(self):
        found = doctest.testfile(str(DOC), module_relative=False)
        self.assertEqual(0, found.failed)
        self.assertGreater(found.attempted, 40)


if __name__ == "__main__":
    unittest.main()
