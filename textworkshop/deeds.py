"""What one step does to one text.

A deed is a list of cuts (start, stop, word), from left to right: the signs from
start up to stop go, and the word is put into the gap behind them.
"""

from textworkshop.kindwords import is_of_kind, places_of
from textworkshop.signs import line_starts, lines_of


def deed_of(step, text, tongue):
    """The deed of a step, None if it refuses the text."""
    match step.word:
        case "want":
            return [] if step.guard.holds_of(text, tongue) else None
        case "replace" | "first" | "once":
            places = taken_signs(step, text, tongue)
            if step.word == "once" and len(places) != 1:
                return None
            return [(place, place + len(step.old), step.new) for place in places]
        case "drop" | "keep":
            return lost_lines(text, [truth == (step.word == "drop") for truth in step.test.truths(lines_of(text))])
        case "strip":
            starts = line_starts(text)
            return [(starts[line], starts[line] + len(step.old), "") for line in taken_lines(step, text)]
        case _:
            return [(place, place, put_word(step)) for place in put_places(step, text)]


def done_text(text, deed):
    """The text behind a deed."""
    parts = []
    at = 0
    for start, stop, word in deed:
        parts.append(text[at:start])
        parts.append(word)
        at = stop
    return "".join(parts) + text[at:]


def taken_signs(step, text, tongue):
    """The places that replace, first and once take; all places of the word for a text that once refuses."""
    if step.word == "once":
        return places_of(step.old, text)
    if step.word == "first":
        place = text.find(step.old)
        return [] if place < 0 else [place]
    if step.kind is not None:
        kinds = tongue.kinds(text)
        return places_from_left(step.old, text, lambda place: is_of_kind(kinds, place, len(step.old), step.kind))
    if step.test is not None:
        truths = sign_truths(step.test, text)
        return places_from_left(step.old, text, lambda place: truths[place])
    return places_from_left(step.old, text, lambda place: True)


def places_from_left(word, text, may_take):
    """The places of a word that are taken from the left, those left out that may not be taken."""
    places = []
    at = text.find(word)
    while at >= 0:
        taken = may_take(at)
        if taken:
            places.append(at)
        at = text.find(word, at + (len(word) if taken else 1))
    return places


def sign_truths(test, text):
    """Of each sign of a text the truth of a test for its line; a newline is told with the line ahead of it."""
    truths = []
    lines = lines_of(text)
    for line, truth in zip(lines, test.truths(lines)):
        truths.extend([truth] * (len(line) + 1))
    return truths


def taken_lines(step, text):
    """The numbers of the lines on which a step of lines works."""
    lines = lines_of(text)
    truths = step.test.truths(lines)
    return [number for number, line in enumerate(lines)
            if truths[number] and (step.word != "strip" or line.startswith(step.old))]


def lost_lines(text, going):
    """The deed by which lines go, each with the newline that it owns; the first one left loses its own."""
    starts, lines = line_starts(text), lines_of(text)
    deed = []
    left = False
    for start, line, goes in zip(starts, lines, going):
        if goes:
            deed.append((max(start - 1, 0), start + len(line), ""))
        elif not left and start:
            deed.append((start - 1, start, ""))
        left = left or not goes
    return deed


def put_places(step, text):
    """The gaps into which ahead, behind, above and below put something."""
    starts, lines = line_starts(text), lines_of(text)
    if step.word in ("ahead", "above"):
        return [starts[number] for number in taken_lines(step, text)]
    return [starts[number] + len(lines[number]) for number in taken_lines(step, text)]


def put_word(step):
    """What ahead, behind, above and below put there."""
    match step.word:
        case "above":
            return step.new + "\n"
        case "below":
            return "\n" + step.new
        case _:
            return step.new
