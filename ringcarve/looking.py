"""Looking for a piece on the ring of a word of which the tail alone is known."""

from ringcarve.reading import read_back
from ringcarve.turns import turn_from


def times(tail, piece):
    # Any word with this tail will do, and with the mark nought there always is one: the least of its turns.
    word = read_back(tail, 0)
    return len([place for place in range(len(word)) if turn_from(word, place).startswith(piece)])
