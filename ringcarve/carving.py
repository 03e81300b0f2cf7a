"""The carving of a word: its tail and its mark."""

from ringcarve.turns import ranking, turn_from


def carved(word):
    ranked = ranking(word)
    tail = "".join([turn_from(word, place)[-1] for place in ranked])
    # The empty word has no place nought to look for.
    mark = ranked.index(0) if word else 0
    return (tail, mark)


def same_ring(one, other):
    # A word told twice holds all its turns, and of its own length nothing else; shorter texts stand there too.
    return len(one) == len(other) and one in other + other
