"""Leaves of guards: their texts, and whether texts keep them.

A leaf is told by its form and its fields. kinds are those of the signs of the
text and, behind them, that of a newline at its end; they are told for leaves
that ask for kinds.
"""

from textworkshop.kindwords import is_of_kind, letter_of, places_of
from textworkshop.linetesttexts import linetest_text
from textworkshop.signs import lines_of
from textworkshop.words import quoted_text


def leaf_text(form, fields):
    """How a leaf is written."""
    match form:
        case "closed":
            return "closed"
        case "places":
            return f"at most {fields[1]} of {quoted_text(fields[0])}"
        case "signs":
            return f"at most {fields[0]} signs"
        case "lines":
            return f"at most {fields[1]} lines {linetest_text(fields[0])}"
        case "each line" | "some line":
            return f"{form} {linetest_text(fields[0])}"
        case "order":
            return f"lines {linetest_text(fields[0])} ahead of lines {linetest_text(fields[1])}"
        case "paired":
            opening, closing, depth, kind = fields
            behind = "" if kind is None else f" in {kind}"
            return f"paired {quoted_text(opening)} {quoted_text(closing)} within {depth}{behind}"
        case "kind has":
            return f"has {quoted_text(fields[0])} in {fields[1]}"
        case "kind each":
            return f"each {quoted_text(fields[0])} in {fields[1]}"
        case _:
            return f"{form} {quoted_text(fields[0])}"


def leaf_truth(form, fields, text, kinds):
    """Whether a text keeps a leaf."""
    match form:
        case "begins":
            return text.startswith(fields[0])
        case "ends":
            return text.endswith(fields[0])
        case "has":
            return fields[0] in text
        case "is":
            return text == fields[0]
        case "places":
            return len(places_of(fields[0], text)) <= fields[1]
        case "signs":
            return len(text) <= fields[0]
        case "paired":
            return is_paired(fields, text, kinds)
        case "closed":
            return kinds[-1] == "c"
        case "kind has":
            return any(kind_truths(fields, text, kinds))
        case "kind each":
            return all(kind_truths(fields, text, kinds))
        case _:
            return lines_truth(form, fields, lines_of(text))


def lines_truth(form, fields, lines):
    """Whether the lines of a text keep a leaf that asks for lines."""
    truths = fields[0].truths(lines)
    match form:
        case "lines":
            return sum(truths) <= fields[1]
        case "each line":
            return all(truths)
        case "some line":
            return any(truths)
        case _:
            return is_in_order(truths, fields[1].truths(lines))


def is_in_order(firsts, seconds):
    """Whether no line of the first test comes behind one of the second test."""
    met = False
    for first, second in zip(firsts, seconds):
        if met and first:
            return False
        met = met or second
    return True


def is_paired(fields, text, kinds):
    """Whether the signs of a pair go up and down between 0 and a depth, and end at 0."""
    opening, closing, most, kind = fields
    depth = 0
    for place, sign in enumerate(text):
        if kind is not None and kinds[place] != letter_of(kind):
            continue
        if sign == opening:
            depth += 1
        elif sign == closing:
            depth -= 1
        if not 0 <= depth <= most:
            return False
    return depth == 0


def kind_truths(fields, text, kinds):
    """Of each place of a word whether all signs there have a kind."""
    word, kind = fields
    return [is_of_kind(kinds, place, len(word), kind) for place in places_of(word, text)]
