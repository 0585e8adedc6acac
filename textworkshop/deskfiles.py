"""Files at a desk: their shown texts, their hidden lots, and what deeds make of them.

A lot is a tuple (number, place, text): the place in the shown text ahead of
which it stands, None at the end. Files never change.
"""

from textworkshop.deeds import done_text
from textworkshop.errors import AllLines, Broken, NoHidden, NoLine, Touched
from textworkshop.signs import line_starts


class DeskFile:
    """A file: lots in the order of the whole text, and how many of them there were in all."""

    def __init__(self, shown, tongue, guards=(), lots=(), hidings=0):
        self.shown = shown
        self.tongue = tongue
        self.guards = guards
        self.lots = lots
        self.hidings = hidings


def with_guards(file, guards):
    """The file with other guards."""
    return DeskFile(file.shown, file.tongue, tuple(guards), file.lots, file.hidings)


def whole_of(shown, lots):
    """The shown text with all lots put back."""
    parts = []
    at = 0
    for _, place, text in lots:
        if place is not None:
            parts.append(shown[at:place] + text + "\n")
            at = place
    parts.append(shown[at:])
    parts.extend(["\n" + text for _, place, text in lots if place is None])
    return "".join(parts)


def done_file(name, file, hunks):
    """The file behind a deed with these hunks; raises Touched, Broken."""
    shown = done_text(file.shown, hunks)
    lots = tuple([(number, moved_place(place, hunks), text) for number, place, text in file.lots])
    torn = [number for number, place, _ in file.lots if is_torn(place, shown, hunks)]
    if torn:
        raise Touched(min(torn))
    whole = whole_of(shown, lots)
    for number, guard in enumerate(file.guards):
        if not guard.holds_of(whole, file.tongue):
            raise Broken(name, number)
    return DeskFile(shown, file.tongue, file.guards, lots, file.hidings)


def moved_place(place, hunks):
    """The place to which hunks move a lot; what is put just there is put behind the lot."""
    if place is None:
        return None
    return place + sum([len(word) - (stop - start) for start, stop, word in hunks if stop <= place and start < place])


def is_torn(place, shown, hunks):
    """Whether a lot stands within signs that a hunk takes away, or no line of the new text begins where it comes to."""
    if place is None:
        return False
    if any([start < place < stop for start, stop, _ in hunks]):
        return True
    behind = moved_place(place, hunks)
    return behind > 0 and shown[behind - 1] != "\n"


def hidden_file(name, file, first, last):
    """The file with some of its lines hidden; raises NoLine, AllLines, Touched."""
    starts = line_starts(file.shown)
    check_lines(name, len(starts), first, last)
    start = starts[first - 1]
    inner = starts[first:last]
    torn = [number for number, place, _ in file.lots if place in inner]
    if torn:
        raise Touched(min(torn))
    ahead = [lot for lot in file.lots if lot[1] is not None and lot[1] <= start]
    others = [lot for lot in file.lots if lot[1] is None or lot[1] > start]
    if last == len(starts):
        # The newline ahead of the lines goes with them, and what stood ahead of them stands at the end.
        shown, text, place = file.shown[:start - 1], file.shown[start:], None
        ahead = [(number, None if at == start else at, told) for number, at, told in ahead]
    else:
        stop = starts[last]
        shown, text, place = file.shown[:start] + file.shown[stop:], file.shown[start:stop - 1], start
        others = shifted(others, start - stop)
    lots = (*ahead, (file.hidings, place, text), *others)
    return DeskFile(shown, file.tongue, file.guards, lots, file.hidings + 1)


def check_lines(name, many, first, last):
    """Raises NoLine, AllLines unless a text of so many lines has these ones, and others."""
    if not 1 <= first <= many:
        raise NoLine(first)
    if not first <= last <= many:
        raise NoLine(last)
    if first == 1 and last == many:
        raise AllLines(name)


def shifted(lots, many):
    """The lots moved by so many signs, but for those at the end."""
    return [(number, None if place is None else place + many, text) for number, place, text in lots]


def shown_file(file, number):
    """The file with one lot put back; raises NoHidden."""
    places = [at for at, lot in enumerate(file.lots) if lot[0] == number]
    if not places:
        raise NoHidden(number)
    at = places[0]
    _, place, text = file.lots[at]
    ahead, others = file.lots[:at], file.lots[at + 1:]
    if place is None:
        start = len(file.shown) + 1
        shown = file.shown + "\n" + text
        # Lots at the end that stand ahead of these lines stand ahead of the first one of them.
        ahead = [(told, start if here is None else here, lines) for told, here, lines in ahead]
    else:
        shown = file.shown[:place] + text + "\n" + file.shown[place:]
        others = shifted(others, len(text) + 1)
    return DeskFile(shown, file.tongue, file.guards, (*ahead, *others), file.hidings)
