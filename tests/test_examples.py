"""The examples of the document, all of them, as they stand."""

import doctest
import pathlib
import unittest

from streamsure.queries import Kinds
from streamsure.sets import EVERYTHING, NOTHING
from streamsure.statetexts import value_text

EXAMPLES = pathlib.Path(__file__).parent / "examples.md"
MANY = 24


class ExamplesTest(unittest.TestCase):
    def test_sessions_of_the_document(self):
        found = doctest.testfile(str(EXAMPLES), module_relative=False, encoding="utf-8")
        self.assertEqual((found.failed, found.attempted), (0, MANY))

    def test_what_is_shown_amid_its_words(self):
        self.assertEqual((EVERYTHING, NOTHING), (((None, None),), ()))
        self.assertEqual(value_text((1, ("a", -2), (), None)), "(1 (a -2) () -)")
        self.assertEqual(Kinds({"sale": ["shop", "price"]}).fields, {"sale": ("shop", "price")})


if __name__ == "__main__":
    unittest.main()
