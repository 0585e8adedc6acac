"""Tables of the texts that begin with a word, end with it, have it, or are it."""

from textworkshop.signs import all_signs
from textworkshop.statetables import StateTable


def signs_in(word):
    """The signs of a word, each one once, ascending."""
    return "".join([sign for sign in all_signs() if sign in word])


def beginning_table(word, exactly):
    """The table of the texts that begin with a word, or, exactly, of the word alone."""
    named = signs_in(word)
    end, lost = len(word), len(word) + 1
    rows = [[at + 1 if sign == told else lost for sign in named] + [lost] for at, told in enumerate(word)]
    rows.append([lost if exactly else end for _ in range(len(named) + 1)])
    rows.append([lost for _ in range(len(named) + 1)])
    return StateTable(named, rows, [end])


def meeting_rows(word):
    """Rows whose state is how much of a word's beginning a text ends with, and the named signs."""
    named = signs_in(word)
    rows = [[0 for _ in range(len(named) + 1)]]
    shorter = 0
    for at, sign in enumerate(word):
        column = named.find(sign)
        behind = rows[shorter][column] if at else 0
        rows[at][column] = at + 1
        shorter = behind
        rows.append(list(rows[shorter]))
    return named, rows


def ending_table(word):
    """The table of the texts that end with a word."""
    named, rows = meeting_rows(word)
    return StateTable(named, rows, [len(word)])


def having_table(word):
    """The table of the texts that have a word somewhere."""
    named, rows = meeting_rows(word)
    rows[-1] = [len(word) for _ in range(len(named) + 1)]
    return StateTable(named, rows, [len(word)])
