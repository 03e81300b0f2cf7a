"""Points 2, 3 and 4, and the interface of ringcarve.turns."""

import inspect
import itertools
import unittest

from sample_words import LONG_WORDS, TOLD_OVER, comes_ahead, letter_of_turn, short_words

from ringcarve.turns import ranking, turn_from


def first_difference(one, other):
    return next(k for k in range(len(one)) if one[k] != other[k])


class TestTurn(unittest.TestCase):
    def test_example(self):
        self.assertEqual(turn_from("ring", 2), "ngri")

    def test_every_place_of_ring(self):
        self.assertEqual([turn_from("ring", place) for place in range(4)], ["ring", "ingr", "ngri", "grin"])

    def test_from_nought_is_the_word_itself(self):
        for word in ("ring", "noon", "tata", "a", "az", LONG_WORDS["mixed"]):
            self.assertEqual(turn_from(word, 0), word)

    def test_from_the_last_place(self):
        self.assertEqual(turn_from("noon", 3), "nnoo")
        self.assertEqual(turn_from("ab", 1), "ba")
        word = LONG_WORDS["mixed"]
        self.assertEqual(turn_from(word, 999), word[999] + word[:999])

    def test_word_of_one_letter(self):
        for letter in "amz":
            self.assertEqual(turn_from(letter, 0), letter)

    def test_short_words_letter_by_letter(self):
        for word in short_words():
            for place in range(len(word)):
                told = [letter_of_turn(word, place, step) for step in range(len(word))]
                self.assertEqual(turn_from(word, place), "".join(told))

    def test_long_turns_letter_by_letter(self):
        for name, word in LONG_WORDS.items():
            for place in (0, 1, len(word) // 2, len(word) - 2, len(word) - 1):
                with self.subTest(name=name, place=place):
                    told = [letter_of_turn(word, place, step) for step in range(len(word))]
                    self.assertEqual(turn_from(word, place), "".join(told))

    def test_as_long_as_the_word(self):
        for word in ("a", "ring", LONG_WORDS["mixed"], LONG_WORDS["mixed, beyond the bound"]):
            for place in range(len(word)):
                self.assertEqual(len(turn_from(word, place)), len(word))

    def test_answers_a_text(self):
        for word in ("a", "ring", LONG_WORDS["golden"]):
            self.assertIs(type(turn_from(word, len(word) - 1)), str)

    def test_arguments(self):
        self.assertEqual(list(inspect.signature(turn_from).parameters), ["word", "place"])
        self.assertEqual(turn_from(word="ring", place=2), "ngri")


class TestOrder(unittest.TestCase):
    """Point 3, seen in the ranking.

    Two turns of one word hold the same letters, so they never differ at one
    place alone: the latest that the first difference can be is the last place
    but one.
    """

    def test_differ_at_the_first_place(self):
        self.assertEqual(ranking("ba"), [1, 0])
        self.assertEqual(ranking("az"), [0, 1])
        self.assertEqual(ranking("za"), [1, 0])
        self.assertEqual(ranking("ring"), [3, 1, 2, 0])
        self.assertEqual(ranking("zyxwvutsrqponmlkjihgfedcba"), list(range(25, -1, -1)))

    def test_first_letter_outweighs_all_later_ones(self):
        self.assertEqual(ranking("azzzb"), [0, 4, 3, 2, 1])

    def test_differ_at_a_later_place(self):
        self.assertEqual(first_difference("abac", "acab"), 1)
        self.assertEqual(ranking("abac"), [0, 2, 1, 3])
        self.assertEqual(ranking("acab"), [2, 0, 3, 1])
        self.assertEqual(first_difference("abcabd", "abdabc"), 2)
        self.assertEqual(ranking("abcabd"), [0, 3, 1, 4, 2, 5])
        self.assertEqual(ranking("abdabc"), [3, 0, 4, 1, 5, 2])

    def test_differ_at_the_last_two_places_alone(self):
        self.assertEqual(ranking("aab"), [0, 1, 2])
        self.assertEqual(ranking("aba"), [2, 0, 1])
        for length in (2, 5, 26, 1000, 1300):
            with self.subTest(length=length):
                word = "a" * (length - 1) + "b"
                self.assertEqual(first_difference(word, word[1:] + word[0]), length - 2)
                self.assertEqual(ranking(word), list(range(length)))
                falling = "b" * (length - 1) + "a"
                self.assertEqual(ranking(falling), list(range(length - 1, -1, -1)))

    def test_no_two_turns_differ_at_the_last_place_alone(self):
        for word in short_words():
            for one, other in itertools.combinations(range(len(word)), 2):
                first, second = turn_from(word, one), turn_from(word, other)
                if first[:-1] == second[:-1]:
                    self.assertEqual(first, second)


class TestRanking(unittest.TestCase):
    def check_in_order(self, word):
        ranked = ranking(word)
        self.assertEqual(sorted(ranked), list(range(len(word))))
        for one, other in zip(ranked, ranked[1:]):
            self.assertTrue(comes_ahead(word, one, other), (one, other))

    def test_examples(self):
        self.assertEqual(ranking("noon"), [3, 0, 2, 1])
        self.assertEqual(ranking("tata"), [1, 3, 0, 2])

    def test_empty_word(self):
        self.assertEqual(ranking(""), [])

    def test_word_of_one_letter(self):
        for letter in "amz":
            self.assertEqual(ranking(letter), [0])

    def test_every_letter_of_the_alphabet(self):
        self.assertEqual(ranking("abcdefghijklmnopqrstuvwxyz"), list(range(26)))

    def test_each_place_just_once(self):
        for word in ("ring", "noon", "tata", "aaaa", "mississippi"):
            self.assertEqual(sorted(ranking(word)), list(range(len(word))))

    def test_same_turns_from_the_least_place_to_the_greatest(self):
        self.assertEqual(ranking("abab"), [0, 2, 1, 3])
        self.assertEqual(ranking("baabaabaa"), [1, 4, 7, 2, 5, 8, 0, 3, 6])

    def test_all_letters_the_same(self):
        for length in (2, 3, 10, 1000, 1100):
            for letter in "az":
                self.assertEqual(ranking(letter * length), list(range(length)))

    def test_short_words(self):
        for word in short_words():
            self.check_in_order(word)

    def test_long_words(self):
        for name, word in LONG_WORDS.items():
            with self.subTest(name=name):
                self.check_in_order(word)

    def test_a_shorter_word_told_many_times_over(self):
        for piece, often in TOLD_OVER:
            with self.subTest(piece=piece, often=often):
                told = [place + len(piece) * k for place in ranking(piece) for k in range(often)]
                self.assertEqual(ranking(piece * often), told)
                self.check_in_order(piece * often)

    def test_answers_a_list_of_whole_numbers(self):
        for word in ("", "a", "noon", LONG_WORDS["mixed"]):
            ranked = ranking(word)
            self.assertIs(type(ranked), list)
            self.assertTrue(all(type(place) is int for place in ranked))

    def test_each_answer_is_a_list_of_its_own(self):
        for word in ("", "noon"):
            before = list(ranking(word))
            ranking(word).append(99)
            self.assertEqual(ranking(word), before)

    def test_arguments(self):
        self.assertEqual(list(inspect.signature(ranking).parameters), ["word"])
        self.assertEqual(ranking(word="noon"), [3, 0, 2, 1])


if __name__ == "__main__":
    unittest.main()
