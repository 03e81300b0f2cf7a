"""The turns of a word carved on a ring, and their order."""


def turn_from(word, place):
    return word[place:] + word[:place]


def ranking(word):
    # sorted leaves equals as they came, so places with the same turn stay from the least to the greatest.
    return sorted(range(len(word)), key=lambda place: turn_from(word, place))
