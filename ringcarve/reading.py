"""Reading a word back from its tail and its mark."""

from ringcarve.carving import carved
from ringcarve.errors import NoWord


def heads(tail):
    return "".join(sorted(tail))


def places_by_letter(tail):
    # sorted leaves equals as they came, so equal letters keep the order that they have in the tail.
    return sorted(range(len(tail)), key=lambda place: tail[place])


def moves(tail):
    reached = [0] * len(tail)
    for head, place in enumerate(places_by_letter(tail)):
        reached[place] = head
    return reached


def walked_back(tail, mark):
    onward = moves(tail)
    letters = []
    place = mark
    while len(letters) < len(tail):
        letters.append(tail[place])
        place = onward[place]
    return "".join(reversed(letters))


def read_back(tail, mark):
    # Every word but the empty one has a place of its tail as its mark.
    word = walked_back(tail, mark) if 0 <= mark < len(tail) else ""
    # The walk meets some letters from any place of any text; only the carving tells whether they are the word.
    if carved(word) != (tail, mark):
        raise NoWord("no word has this tail and this mark")
    return word
