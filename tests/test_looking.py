"""Point 9, and the interface of ringcarve.looking."""

import inspect
import unittest

from sample_words import LONG_WORDS, TOLD_OVER, short_words, told_times

from ringcarve.carving import carved
from ringcarve.looking import times
from ringcarve.turns import turn_from


def times_on(word, piece):
    return times(carved(word)[0], piece)


class TestTimes(unittest.TestCase):
    def test_within_the_word(self):
        self.assertEqual(times("onon", "oo"), 1)
        self.assertEqual(times("onon", "n"), 2)
        self.assertEqual(times_on("ring", "in"), 1)
        self.assertEqual(times_on("mississippi", "ss"), 2)
        self.assertEqual(times_on("mississippi", "issi"), 2)

    def test_over_the_end_of_the_word(self):
        self.assertEqual(times("onon", "nn"), 1)
        self.assertEqual(times_on("ring", "gr"), 1)
        self.assertEqual(times_on("ring", "ngri"), 1)
        self.assertEqual(times_on("aab", "ba"), 1)
        self.assertEqual(times_on("tata", "ata"), 2)

    def test_places_that_overlap(self):
        self.assertEqual(times_on("aaab", "aa"), 2)
        self.assertEqual(times_on("ababa", "aba"), 2)
        self.assertEqual(times_on("aaaa", "aa"), 4)

    def test_nowhere(self):
        self.assertEqual(times("onon", "x"), 0)
        self.assertEqual(times("onon", "non"), 0)
        self.assertEqual(times_on("ring", "gnir"), 0)
        self.assertEqual(times_on("tata", "tt"), 0)

    def test_the_empty_piece_stands_at_every_place(self):
        for word in ("a", "noon", "tata", "aaaa", "mississippi"):
            self.assertEqual(times_on(word, ""), len(word))

    def test_the_empty_word_has_no_place(self):
        for piece in ("", "a", "ring"):
            self.assertEqual(times("", piece), 0)

    def test_piece_as_long_as_the_word(self):
        self.assertEqual(times_on("noon", "noon"), 1)
        self.assertEqual(times_on("noon", "onno"), 1)
        self.assertEqual(times_on("tata", "tata"), 2)
        self.assertEqual(times_on("aaaa", "aaaa"), 4)
        self.assertEqual(times_on("abcabcabc", "bcabcabca"), 3)

    def test_piece_longer_than_the_word(self):
        for word in ("a", "ta", "tata", "aaaa", "abcabcabc", "noon"):
            for piece in (word + word[0], word + word, word * 3):
                self.assertEqual(times_on(word, piece), 0, (word, piece))

    def test_short_words_and_every_short_piece(self):
        for letters, longest in (("ab", 6), ("abc", 4)):
            for word in short_words(letters, longest):
                tail = carved(word)[0]
                for piece in short_words(letters, len(word) + 1):
                    self.assertEqual(times(tail, piece), told_times(word, piece), (word, piece))

    def test_a_letter_that_the_word_has_not(self):
        for word in short_words("bd", 5):
            for piece in short_words("abcde", 2):
                self.assertEqual(times_on(word, piece), told_times(word, piece), (word, piece))

    def test_long_words(self):
        for name, word in LONG_WORDS.items():
            tail = carved(word)[0]
            size = len(word)
            turn = turn_from(word, size // 2)
            pieces = (
                "", "a", "b", "ab", "ba", "aab", "xyz", word[:10], word[-10:], word[-3:] + word[:3],
                turn[:size // 2 + 5], word[:-1], word, turn, word[:-1] + "k",
            )
            for piece in pieces:
                with self.subTest(name=name, piece=piece[:20], length=len(piece)):
                    self.assertEqual(times(tail, piece), told_times(word, piece))
            for piece in (word + word[0], turn + turn[0], word + word):
                with self.subTest(name=name, length=len(piece)):
                    self.assertEqual(times(tail, piece), 0)

    def test_long_words_told_many_times_over(self):
        for part, often in TOLD_OVER:
            with self.subTest(part=part, often=often):
                word = part * often
                tail = carved(word)[0]
                self.assertEqual(times(tail, ""), len(word))
                for piece in (part, word, turn_from(word, len(part) // 2)):
                    self.assertEqual(times(tail, piece), often)
                self.assertEqual(times(tail, word + part), 0)

    def test_answers_a_whole_number(self):
        for tail, piece in (("", ""), ("", "a"), ("onon", ""), ("onon", "no"), ("onon", "z")):
            self.assertIs(type(times(tail, piece)), int)

    def test_arguments(self):
        self.assertEqual(list(inspect.signature(times).parameters), ["tail", "piece"])
        self.assertEqual(times(tail="onon", piece="no"), 1)


if __name__ == "__main__":
    unittest.main()
