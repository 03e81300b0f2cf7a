"""Points 5 and 6, and the interface of ringcarve.carving."""

import inspect
import itertools
import unittest

from sample_words import (
    LONG_WORDS, TOLD_OVER, letter_of_turn, short_words, told_carving, told_same_ring, told_turns,
)

from ringcarve.carving import carved, same_ring
from ringcarve.turns import ranking, turn_from


def short_groups():
    """Short words of two and of three letters, few enough that all pairs of them can be tried."""
    yield "ab", list(short_words("ab", 7))
    yield "az", list(short_words("az", 5))
    yield "abc", list(short_words("abc", 4))


class TestCarved(unittest.TestCase):
    def test_examples(self):
        self.assertEqual(carved("noon"), ("onon", 1))
        self.assertEqual(carved("tata"), ("ttaa", 2))
        self.assertEqual(carved(""), ("", 0))

    def test_word_of_one_letter(self):
        for letter in "abcdefghijklmnopqrstuvwxyz":
            self.assertEqual(carved(letter), (letter, 0))

    def test_mark_is_the_place_of_nought_in_the_ranking(self):
        self.assertEqual(carved("ring"), ("nrig", 3))
        self.assertEqual(carved("grin"), ("nrig", 0))
        self.assertEqual(carved("ab"), ("ba", 0))
        self.assertEqual(carved("ba"), ("ba", 1))

    def test_a_shorter_word_told_several_times_over(self):
        self.assertEqual(carved("aaaa"), ("aaaa", 0))
        self.assertEqual(carved("atat"), ("ttaa", 0))
        self.assertEqual(carved("abcabcabc"), ("cccaaabbb", 0))
        self.assertEqual(carved("bcabcabca"), ("cccaaabbb", 3))
        self.assertEqual(carved("cabcabcab"), ("cccaaabbb", 6))

    def test_short_words(self):
        for letters, longest in (("ab", 9), ("abc", 6), ("zma", 5)):
            for word in short_words(letters, longest):
                self.assertEqual(carved(word), told_carving(word), word)

    def test_long_words(self):
        for name, word in LONG_WORDS.items():
            with self.subTest(name=name):
                ranked = ranking(word)
                tail = "".join(letter_of_turn(word, place, len(word) - 1) for place in ranked)
                self.assertEqual(carved(word), (tail, ranked.index(0)))

    def test_long_words_whose_carving_is_plain(self):
        self.assertEqual(carved("z" * 1000), ("z" * 1000, 0))
        self.assertEqual(carved("a" * 999 + "b"), ("b" + "a" * 999, 0))
        self.assertEqual(carved("b" + "a" * 1100), ("b" + "a" * 1100, 1100))

    def test_long_words_told_many_times_over(self):
        for piece, often in TOLD_OVER:
            with self.subTest(piece=piece, often=often):
                tail, mark = carved(piece)
                told = "".join(letter * often for letter in tail)
                self.assertEqual(carved(piece * often), (told, mark * often))

    def test_no_two_words_have_the_same_carving(self):
        for letters, words in short_groups():
            with self.subTest(letters=letters):
                self.assertEqual(len({carved(word) for word in words}), len(words))

    def test_answers_a_pair_of_a_text_and_a_whole_number(self):
        for word in ("", "a", "noon", LONG_WORDS["mixed"]):
            answer = carved(word)
            self.assertIs(type(answer), tuple)
            self.assertEqual([type(part) for part in answer], [str, int])

    def test_arguments(self):
        self.assertEqual(list(inspect.signature(carved).parameters), ["word"])
        self.assertEqual(carved(word="noon"), ("onon", 1))


class TestSameRing(unittest.TestCase):
    def test_turns_of_one_another(self):
        for one, other in (("ring", "ngri"), ("ngri", "ring"), ("ring", "ring"), ("tata", "atat"), ("a", "a")):
            self.assertIs(same_ring(one, other), True, (one, other))

    def test_no_turns_of_one_another(self):
        pairs = (
            ("ring", "gnir"), ("abab", "aabb"), ("a", "b"), ("ab", "abab"), ("abab", "ab"), ("a", "aa"),
            ("aa", "aaa"), ("ring", "rin"), ("rin", "ring"), ("ringring", "ring"),
        )
        for one, other in pairs:
            self.assertIs(same_ring(one, other), False, (one, other))

    def test_empty_words(self):
        self.assertIs(same_ring("", ""), True)
        for word in ("a", "ring", LONG_WORDS["mixed"]):
            self.assertIs(same_ring("", word), False)
            self.assertIs(same_ring(word, ""), False)

    def test_all_pairs_of_short_words(self):
        for letters, words in short_groups():
            tails = {word: carved(word)[0] for word in words}
            for one, other in itertools.product(words, repeat=2):
                told = told_same_ring(one, other) if len(one) == len(other) else False
                self.assertIs(same_ring(one, other), told, (one, other))
                self.assertIs(tails[one] == tails[other], told, (one, other))

    def test_every_turn_of_a_short_word(self):
        for word in short_words("abc", 6):
            for turn in told_turns(word):
                self.assertIs(same_ring(word, turn), True, (word, turn))
                self.assertEqual(carved(turn)[0], carved(word)[0], (word, turn))

    def test_long_words(self):
        for name, word in LONG_WORDS.items():
            for place in (0, 1, len(word) // 2, len(word) - 1):
                with self.subTest(name=name, place=place):
                    turn = turn_from(word, place)
                    self.assertIs(same_ring(word, turn), True)
                    self.assertIs(same_ring(turn, word), True)
                    self.assertEqual(carved(turn)[0], carved(word)[0])
                    self.assertIs(same_ring(word, turn + turn[0]), False)
                    self.assertIs(same_ring(word, turn[1:]), False)

    def test_long_words_that_are_no_turns(self):
        mixed = LONG_WORDS["mixed"]
        pairs = [
            (mixed, mixed[::-1]), (mixed, mixed[1] + mixed[0] + mixed[2:]), ("z" * 1000, "z" * 999 + "y"),
            ("ab" * 500, "ab" * 499 + "ba"), ("ab" * 500, "ab" * 498), ("a" * 1000, "a" * 1001),
        ]
        for one, other in pairs:
            self.assertIs(same_ring(one, other), False)
            self.assertIs(same_ring(other, one), False)
            self.assertNotEqual(carved(one)[0], carved(other)[0])

    def test_arguments(self):
        self.assertEqual(list(inspect.signature(same_ring).parameters), ["one", "other"])
        self.assertIs(same_ring(one="ring", other="grin"), True)


if __name__ == "__main__":
    unittest.main()
