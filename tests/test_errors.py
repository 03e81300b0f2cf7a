"""The interface of ringcarve.errors."""

import unittest

from ringcarve.errors import NoWord, RingError


class TestErrors(unittest.TestCase):
    def test_ring_error_is_a_value_error(self):
        self.assertEqual(RingError.__bases__, (ValueError,))

    def test_no_word_is_a_ring_error(self):
        self.assertEqual(NoWord.__bases__, (RingError,))

    def test_no_word_is_taken_as_ring_error_and_as_value_error(self):
        for kind in (NoWord, RingError, ValueError):
            with self.subTest(kind=kind.__name__), self.assertRaises(kind):
                raise NoWord("no word has this tail")

    def test_ring_error_is_not_taken_as_no_word(self):
        self.assertNotIsInstance(RingError("refused"), NoWord)


if __name__ == "__main__":
    unittest.main()
