"""Words of a line."""

from textworkshop.signs import SIGNS

LETTERS = "abcdefghijklmnopqrstuvwxyz"
FIGURES = "0123456789"
MOST_FIGURES = 9
MEANINGS = {"\"": "\"", "\\": "\\", "n": "\n"}
ESCAPES = {"\"": "\\\"", "\\": "\\\\", "\n": "\\n"}


def line_words(line):
    """The tuple of the words (kind, value, column) of a line, up to the first one with a fault."""
    words = []
    at = 0
    while at < len(line):
        if line[at] == " ":
            at += 1
            continue
        kind, value, behind = word_at(line, at)
        words.append((kind, value, at + 1))
        at = len(line) if kind.startswith("bad") else behind
    return tuple(words)


def word_at(line, at):
    """The kind and the value of the word at a place, and the place behind it."""
    sign = line[at]
    if sign in LETTERS:
        behind = run_end(line, at, LETTERS)
        return "name", line[at:behind], behind
    if sign in FIGURES:
        return number_at(line, at)
    if sign == "\"":
        return quoted_at(line, at)
    if sign in "()":
        return "bracket", sign, at + 1
    return "bad sign", at + 1, at + 1


def run_end(line, at, signs):
    """The place behind the longest run of signs at a place."""
    while at < len(line) and line[at] in signs:
        at += 1
    return at


def number_at(line, at):
    """The number at a place."""
    behind = run_end(line, at, FIGURES)
    if behind - at > 1 and line[at] == "0":
        return "bad number", at + 2, behind
    if behind - at > MOST_FIGURES:
        return "bad number", at + MOST_FIGURES + 1, behind
    return "number", int(line[at:behind]), behind


def quoted_at(line, at):
    """The quoted word at a place."""
    signs = []
    place = at + 1
    while place < len(line):
        sign = line[place]
        if sign == "\"":
            return "quoted", "".join(signs), place + 1
        if sign == "\\":
            sign = MEANINGS.get(line[place + 1:place + 2], "")
            if not sign:
                return "bad quoted", place + 1, place
            place += 1
        elif sign not in SIGNS:
            return "bad quoted", place + 1, place
        signs.append(sign)
        place += 1
    return "bad quoted", at + 1, place


def quoted_text(word):
    """The quoted word that stands for a text."""
    return "\"" + "".join([ESCAPES.get(sign, sign) for sign in word]) + "\""
