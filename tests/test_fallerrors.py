"""[23] BadPlace and BadState."""

import unittest

from streamsure import errors
from streamsure.fallerrors import BadPlace, BadState


class FallErrorsTest(unittest.TestCase):
    def test_each_is_directly_below_stream_error(self):
        for error in (BadPlace, BadState):
            self.assertEqual(error.__bases__, (errors.StreamError,))

    def test_each_keeps_its_argument(self):
        for thing in (0, 7, None, "a", (1, 2)):
            self.assertEqual(BadPlace(thing).place, thing)
            self.assertEqual(BadState(thing).word, thing)
            self.assertEqual(vars(BadPlace(place=thing)), {"place": thing})
            self.assertEqual(vars(BadState(word=thing)), {"word": thing})

    def test_each_takes_just_one(self):
        for error in (BadPlace, BadState):
            self.assertRaises(TypeError, error)
            self.assertRaises(TypeError, error, 1, 2)

    def test_each_can_be_raised_and_caught(self):
        for error in (BadPlace, BadState):
            with self.assertRaises(errors.StreamError):
                raise error(3)


if __name__ == "__main__":
    unittest.main()
