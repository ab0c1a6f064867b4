import unittest

from roomsay.errors import NoMove, SayError


class Errors(unittest.TestCase):
    def test_every_refusal_is_a_say_error(self):
        self.assertEqual(SayError.__bases__, (ValueError,))
        self.assertEqual(NoMove.__bases__, (SayError,))

    def test_errors_hold_the_words_they_are_raised_with(self):
        for error in (SayError, NoMove):
            with self.assertRaises(ValueError) as caught:
                raise error("some words")
            self.assertEqual(str(caught.exception), "some words")


if __name__ == "__main__":
    unittest.main()
