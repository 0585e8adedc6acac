"""The kinds of signs by the words of guards and steps, and the places of words."""

KIND_LETTERS = {"code": "c", "quotes": "q", "remarks": "r"}


def is_kind(value):
    """Whether any value is the word for a kind."""
    return isinstance(value, str) and value in KIND_LETTERS


def letter_of(kind):
    """The letter with which readings tell a kind."""
    return KIND_LETTERS[kind]


def places_of(word, text):
    """The places of a word in a text, also those that overlap."""
    return [place for place in range(len(text) - len(word) + 1) if text.startswith(word, place)]


def is_of_kind(kinds, place, length, kind):
    """Whether all signs of a stretch of a text, whose kinds are told, are of this kind."""
    return kinds[place:place + length] == KIND_LETTERS[kind] * length
