"""Points 7 and 8, and the interface of ringcarve.reading."""

import inspect
import unittest

from sample_words import (
    LONG_WORDS, TOLD_OVER, mixed_word, short_words, told_carving, told_heads, told_moves,
)

from ringcarve.carving import carved
from ringcarve.errors import NoWord, RingError
from ringcarve.reading import heads, moves, read_back
from ringcarve.turns import turn_from

LETTERS = "abcdefghijklmnopqrstuvwxyz"

SHORT = (("ab", 9), ("az", 6), ("abc", 6))


class TestHeads(unittest.TestCase):
    def test_examples(self):
        self.assertEqual(heads("onon"), "nnoo")
        self.assertEqual(heads("ttaa"), "aatt")

    def test_empty_text(self):
        self.assertEqual(heads(""), "")

    def test_every_letter(self):
        self.assertEqual(heads(LETTERS), LETTERS)
        self.assertEqual(heads(LETTERS[::-1]), LETTERS)

    def test_short_texts(self):
        for letters, longest in SHORT:
            for tail in short_words(letters, longest):
                self.assertEqual(heads(tail), told_heads(tail), tail)

    def test_long_texts(self):
        for name, tail in LONG_WORDS.items():
            with self.subTest(name=name):
                self.assertEqual(heads(tail), told_heads(tail))

    def test_answers_a_text(self):
        for tail in ("", "a", "onon", LONG_WORDS["mixed"]):
            self.assertIs(type(heads(tail)), str)

    def test_arguments(self):
        self.assertEqual(list(inspect.signature(heads).parameters), ["tail"])
        self.assertEqual(heads(tail="onon"), "nnoo")


class TestMoves(unittest.TestCase):
    def check_walk(self, word):
        tail, mark = carved(word)
        onward = moves(tail)
        place, met = mark, []
        for step in range(len(word)):
            met.append(tail[place])
            place = onward[place]
        self.assertEqual("".join(met), word[::-1])

    def test_example(self):
        self.assertEqual(moves("onon"), [2, 0, 3, 1])

    def test_empty_text(self):
        self.assertEqual(moves(""), [])

    def test_equal_letters_keep_their_order(self):
        self.assertEqual(moves("ttaa"), [2, 3, 0, 1])
        self.assertEqual(moves("baba"), [2, 0, 3, 1])
        self.assertEqual(moves("cccaaabbb"), [6, 7, 8, 0, 1, 2, 3, 4, 5])
        self.assertEqual(moves("aaaa"), [0, 1, 2, 3])

    def test_every_letter(self):
        self.assertEqual(moves(LETTERS), list(range(26)))
        self.assertEqual(moves(LETTERS[::-1]), list(range(25, -1, -1)))

    def test_text_that_is_no_tail(self):
        self.assertEqual(moves("ab"), [0, 1])

    def test_short_texts(self):
        for letters, longest in SHORT:
            for tail in short_words(letters, longest):
                self.assertEqual(moves(tail), told_moves(tail), tail)

    def test_long_texts(self):
        for name, tail in LONG_WORDS.items():
            with self.subTest(name=name):
                self.assertEqual(moves(tail), told_moves(tail))

    def test_the_walk_meets_the_word_from_its_end(self):
        for letters, longest in SHORT:
            for word in short_words(letters, longest):
                self.check_walk(word)

    def test_the_walk_meets_long_words(self):
        for name, word in LONG_WORDS.items():
            with self.subTest(name=name):
                self.check_walk(word)
        for piece, often in TOLD_OVER:
            with self.subTest(piece=piece, often=often):
                self.check_walk(piece * often)

    def test_answers_a_list_of_whole_numbers(self):
        for tail in ("", "a", "onon", LONG_WORDS["mixed"]):
            answer = moves(tail)
            self.assertIs(type(answer), list)
            self.assertTrue(all(type(move) is int for move in answer))

    def test_each_answer_is_a_list_of_its_own(self):
        for tail in ("", "onon"):
            before = list(moves(tail))
            moves(tail).append(99)
            self.assertEqual(moves(tail), before)

    def test_arguments(self):
        self.assertEqual(list(inspect.signature(moves).parameters), ["tail"])
        self.assertEqual(moves(tail="onon"), [2, 0, 3, 1])


class TestReadBack(unittest.TestCase):
    def check_refused(self, tail, mark):
        with self.assertRaises(NoWord, msg=(tail, mark)):
            read_back(tail, mark)

    def check_marks_of_told_over(self, piece, often):
        """Of the marks with this tail, those of the turns are times of often; no word has another."""
        tail = carved(piece * often)[0]
        words = {carved(turn_from(piece, place) * often)[1]: place for place in range(len(piece))}
        self.assertEqual(sorted(words), list(range(0, len(tail), often)))
        for mark in range(-2, len(tail) + 3):
            if mark in words:
                self.assertEqual(read_back(tail, mark), turn_from(piece, words[mark]) * often)
            else:
                self.check_refused(tail, mark)

    def test_examples(self):
        self.assertEqual(read_back("onon", 1), "noon")
        self.assertEqual(read_back("ttaa", 2), "tata")
        self.assertEqual(read_back("", 0), "")

    def test_refused_examples(self):
        self.check_refused("ab", 0)
        self.check_refused("aa", 1)
        self.check_refused("ttaa", 3)

    def test_no_word_has_the_tail(self):
        for tail in ("ab", "abc", "abab", "aab", "ringcarve", "a" * 999 + "b"):
            for mark in range(-1, len(tail) + 2):
                self.check_refused(tail, mark)

    def test_empty_tail(self):
        for mark in (-1000, -2, -1, 1, 2, 1000, 10 ** 30, -10 ** 30):
            self.check_refused("", mark)

    def test_tail_of_one_letter(self):
        for letter in LETTERS:
            self.assertEqual(read_back(letter, 0), letter)
            for mark in (-2, -1, 1, 2):
                self.check_refused(letter, mark)

    def test_marks_that_are_no_place_of_the_tail(self):
        tails = ("a", "onon", "ttaa", "nrig", carved(LONG_WORDS["mixed"])[0], carved(LONG_WORDS["golden"])[0])
        for tail in tails:
            size = len(tail)
            for mark in (-1, -2, -size, -size - 1, size, size + 1, 2 * size, 10 ** 30, -10 ** 30):
                self.check_refused(tail, mark)

    def test_all_marks_of_a_tail(self):
        self.assertEqual([read_back("onon", mark) for mark in range(4)], ["nnoo", "noon", "onno", "oonn"])
        self.assertEqual([read_back("nrig", mark) for mark in range(4)], ["grin", "ingr", "ngri", "ring"])

    def test_a_shorter_word_told_several_times_over(self):
        for piece, often in (("ta", 2), ("a", 4), ("abc", 3), ("ring", 2), ("noon", 3), ("aab", 5)):
            self.check_marks_of_told_over(piece, often)

    def test_every_short_pair(self):
        for letters, longest in SHORT:
            words = {told_carving(word): word for word in short_words(letters, longest)}
            for tail in short_words(letters, longest):
                for mark in range(-len(tail) - 2, len(tail) + 3):
                    if (tail, mark) in words:
                        self.assertEqual(read_back(tail, mark), words[tail, mark])
                    else:
                        self.check_refused(tail, mark)

    def test_short_words_are_read_back_from_what_they_are_carved_as(self):
        for letters, longest in SHORT:
            for word in short_words(letters, longest):
                self.assertEqual(read_back(*carved(word)), word)

    def test_long_words(self):
        for name, word in LONG_WORDS.items():
            for place in (0, 1, len(word) // 2, len(word) - 1):
                with self.subTest(name=name, place=place):
                    turn = turn_from(word, place)
                    self.assertEqual(read_back(*carved(turn)), turn)

    def test_long_words_told_many_times_over(self):
        for piece, often in TOLD_OVER:
            with self.subTest(piece=piece, often=often):
                tail, mark = carved(piece * often)
                self.assertEqual(read_back(tail, mark), piece * often)
                for wrong in (mark + 1, mark + often - 1, len(tail) - 1):
                    self.check_refused(tail, wrong)

    def test_long_texts_that_are_no_tails(self):
        # Only a word without any other letter has a tail that begins with its least letter or ends with its greatest.
        for tail in ("a" + mixed_word(999), mixed_word(1299) + "z", LETTERS * 40):
            for mark in (0, 1, 500, len(tail) - 1):
                self.check_refused(tail, mark)

    def test_the_refusal_is_a_ring_error_and_a_value_error(self):
        for kind in (RingError, ValueError):
            with self.assertRaises(kind):
                read_back("ab", 0)

    def test_answers_a_text(self):
        for word in ("", "a", "noon", LONG_WORDS["mixed"]):
            self.assertIs(type(read_back(*carved(word))), str)

    def test_arguments(self):
        self.assertEqual(list(inspect.signature(read_back).parameters), ["tail", "mark"])
        self.assertEqual(read_back(tail="onon", mark=1), "noon")


if __name__ == "__main__":
    unittest.main()
