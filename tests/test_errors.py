"""[23] The errors, what they stand below and what they keep."""

import unittest

from streamsure.errors import BadLetter, BadQuery, BadText, NotFinite, StreamError, TooMany


class ErrorsTest(unittest.TestCase):
    def test_stream_error_is_directly_below_exception(self):
        self.assertEqual(StreamError.__bases__, (Exception,))

    def test_each_error_is_directly_below_stream_error(self):
        for error in (BadQuery, BadLetter, TooMany, NotFinite, BadText):
            with self.subTest(error=error.__name__):
                self.assertEqual(error.__bases__, (StreamError,))

    def test_arguments_are_kept_by_position_and_by_name(self):
        rows = [
            (BadQuery, {"word": "field"}),
            (BadLetter, {"number": 3}),
            (TooMany, {"most": 10**30}),
            (NotFinite, {}),
            (BadText, {"line": 2, "word": 5}),
        ]
        for error, told in rows:
            for made in (error(*told.values()), error(**told)):
                with self.subTest(error=error.__name__):
                    self.assertEqual(vars(made), told)

    def test_the_two_arguments_of_bad_text_are_not_mixed_up(self):
        made = BadText(1, 7)
        self.assertEqual((made.line, made.word), (1, 7))

    def test_wrong_numbers_of_arguments_are_refused(self):
        calls = [
            (BadQuery, ()), (BadQuery, ("a", "b")), (BadLetter, ()), (BadLetter, (1, 2)),
            (TooMany, ()), (TooMany, (1, 2)), (NotFinite, (1,)), (BadText, (1,)),
            (BadText, (1, 2, 3)),
        ]
        for error, told in calls:
            with self.subTest(error=error.__name__, told=told):
                with self.assertRaises(TypeError):
                    error(*told)

    def test_each_can_be_raised_and_caught_by_both_names(self):
        for error, told in [
            (BadQuery, ("kind",)), (BadLetter, (0,)), (TooMany, (1,)), (NotFinite, ()),
            (BadText, (0, 0)),
        ]:
            with self.assertRaises(error):
                raise error(*told)
            with self.assertRaises(StreamError):
                raise error(*told)


if __name__ == "__main__":
    unittest.main()
