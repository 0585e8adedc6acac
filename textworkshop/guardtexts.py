"""Texts of guards."""

from textworkshop.guards import (
    and_guard, closed_guard, each_line_guard, kind_guard, lines_guard, not_guard, or_guard, order_guard, paired_guard,
    places_guard, signs_guard, some_line_guard, text_guard)
from textworkshop.kindwords import KIND_LETTERS
from textworkshop.linetesttexts import linetest_form, made_linetest
from textworkshop.wordreader import WordReader

LEAF_WORDS = ("begins", "ends", "has", "is", "at", "each", "some", "lines", "paired", "closed")
MOST_HELD = 6


def read_guard(text):
    """The guard of a text in one line; raises BadText, then the errors of making it."""
    words = WordReader(text, 1)
    form = guard_form(words, 0)
    words.finish()
    return made_guard(form)


def guard_form(words, held):
    """The form of the guard that comes next; held tells how many not and ( are waiting for their end."""
    return lot_form(words, held, "or", both_form)


def both_form(words, held):
    """The form of what stands between two or."""
    return lot_form(words, held, "and", one_form)


def lot_form(words, held, joint, part_form):
    """The form of one part, or of several with a joint between them."""
    parts = [part_form(words, held)]
    while words.skipped(joint):
        parts.append(part_form(words, held))
    return (joint, tuple(parts)) if len(parts) > 1 else parts[0]


def one_form(words, held):
    """The form of a leaf, of a guard in brackets, or of one with not."""
    heads = LEAF_WORDS if held == MOST_HELD else ("not", "(", *LEAF_WORDS)
    word = words.chosen(heads)
    if word == "not":
        return "not", (one_form(words, held + 1),)
    if word == "(":
        form = guard_form(words, held + 1)
        words.chosen((")",))
        return form
    return leaf_form(words, word)


def leaf_form(words, word):
    """The form of a leaf whose first word was read: its name and its fields."""
    match word:
        case "at":
            words.chosen(("most",))
            return most_form(words, words.whole())
        case "each":
            if words.skipped("line"):
                return "each line", (linetest_form(words),)
            told = words.quoted()
            words.chosen(("in",))
            return "kind", ("each", told, kind_word(words))
        case "some":
            words.chosen(("line",))
            return "some line", (linetest_form(words),)
        case "lines":
            first = linetest_form(words)
            words.chosen(("ahead",))
            words.chosen(("of",))
            words.chosen(("lines",))
            return "order", (first, linetest_form(words))
        case "paired":
            opening, closing = words.quoted(), words.quoted()
            words.chosen(("within",))
            depth = words.whole()
            return "paired", (opening, closing, depth, kind_word(words) if words.skipped("in") else None)
        case "closed":
            return "closed", ()
        case _:
            told = words.quoted()
            if word == "has" and words.skipped("in"):
                return "kind", (word, told, kind_word(words))
            return "text", (word, told)


def most_form(words, most):
    """The form of a leaf that begins with at most K."""
    match words.chosen(("of", "signs", "lines")):
        case "of":
            return "places", (words.quoted(), most)
        case "signs":
            return "signs", (most,)
        case _:
            return "lines", (linetest_form(words), most)


def kind_word(words):
    """The next word, one for a kind."""
    return words.chosen(list(KIND_LETTERS))


def made_guard(form):
    """The guard of a form; parts are made ahead of what has them, from the left."""
    name, fields = form
    match name:
        case "and":
            return and_guard([made_guard(part) for part in fields])
        case "or":
            return or_guard([made_guard(part) for part in fields])
        case "not":
            return not_guard(made_guard(fields[0]))
        case "lines":
            return lines_guard(made_linetest(fields[0]), fields[1])
        case "each line":
            return each_line_guard(made_linetest(fields[0]))
        case "some line":
            return some_line_guard(made_linetest(fields[0]))
        case "order":
            first, second = [made_linetest(part) for part in fields]
            return order_guard(first, second)
        case _:
            return made_leaf(name, fields)


def made_leaf(name, fields):
    """The leaf of a form without line tests."""
    match name:
        case "text":
            return text_guard(*fields)
        case "places":
            return places_guard(*fields)
        case "signs":
            return signs_guard(*fields)
        case "paired":
            return paired_guard(*fields)
        case "kind":
            return kind_guard(*fields)
        case _:
            return closed_guard()
