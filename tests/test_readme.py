"""What README.md shows is what the program does."""

import doctest
import pathlib
import unittest


class ReadmeTest(unittest.TestCase):
    def test_examples(self):
        path = pathlib.Path(__file__).parent.parent / "README.md"
        found = doctest.testfile(str(path), module_relative=False, encoding="utf-8")
        self.assertGreater(found.attempted, 0)
        self.assertEqual(found.failed, 0)


if __name__ == "__main__":
    unittest.main()
