"""Words to test with, and the document's points told anew, letter by letter, without the program."""

import itertools


def short_words(letters="abc", longest=6):
    for length in range(longest + 1):
        for chosen in itertools.product(letters, repeat=length):
            yield "".join(chosen)


def mixed_word(length, letters="abcdefghijklmnopqrstuvwxyz"):
    """A word without a plain pattern, the same at each run."""
    state, chosen = 12345, []
    for step in range(length):
        state = (state * 1103515245 + 12345) % 2147483648
        chosen.append(letters[(state >> 16) % len(letters)])
    return "".join(chosen)


def golden_word(length):
    """A word whose turns agree over long stretches, though no two are the same."""
    one, other = "a", "ab"
    while len(other) < length:
        one, other = other, other + one
    return other[:length]


LONG_WORDS = {
    "mixed": mixed_word(1000),
    "mixed, two letters": mixed_word(1000, "ab"),
    "mixed, beyond the bound": mixed_word(1237),
    "golden": golden_word(1000),
    "golden, 987": golden_word(987),
    "golden, beyond the bound": golden_word(1597),
    "one letter": "z" * 1000,
    "one letter, beyond the bound": "q" * 1100,
    "last letter differs": "a" * 999 + "b",
    "first letter differs": "b" + "a" * 1100,
    "nearly told many times over": "ab" * 500 + "a",
}

# Each piece is no shorter one told many times over.
TOLD_OVER = (
    ("a", 1000), ("ta", 500), ("abb", 333), ("aab", 400), ("noon", 250), ("ring", 300),
    ("abcdefghij", 100), (mixed_word(500), 2), (mixed_word(125), 8), (golden_word(89), 13),
)


def letter_of_turn(word, place, step):
    return word[(place + step) % len(word)]


def comes_ahead(word, one, other):
    """Points 3 and 4: does place one stand ahead of place other?"""
    for step in range(len(word)):
        mine = letter_of_turn(word, one, step)
        yours = letter_of_turn(word, other, step)
        if mine != yours:
            return ord(mine) < ord(yours)
    return one < other


def told_turns(word):
    """Point 2: the turns from all places, in the order of the places."""
    steps = range(len(word))
    return ["".join(letter_of_turn(word, place, step) for step in steps) for place in steps]


def told_carving(word):
    """Points 4 and 5: a place stands behind as many places as come ahead of it."""
    tail = [""] * len(word)
    mark = 0
    for place in range(len(word)):
        ahead = sum(comes_ahead(word, other, place) for other in range(len(word)) if other != place)
        tail[ahead] = letter_of_turn(word, place, len(word) - 1)
        if place == 0:
            mark = ahead
    return "".join(tail), mark


def told_same_ring(one, other):
    """Point 6."""
    return one in told_turns(other) or one == other == ""


def told_heads(tail):
    """Point 8."""
    return "".join(letter * tail.count(letter) for letter in "abcdefghijklmnopqrstuvwxyz")


def told_moves(tail):
    """Point 8: ahead of a letter come all lesser ones, and the equal ones that stand ahead of it in the tail."""
    moved = []
    for place, letter in enumerate(tail):
        lesser = sum(ord(other) < ord(letter) for other in tail)
        moved.append(lesser + tail[:place].count(letter))
    return moved


def told_times(word, piece):
    """Point 9."""
    if len(piece) > len(word):
        return 0
    return sum(
        all(letter_of_turn(word, place, step) == letter for step, letter in enumerate(piece))
        for place in range(len(word))
    )
