"""Two scripts on one text."""

from textworkshop.errors import Conflict
from textworkshop.origins import fates_of


class Piece:
    """A piece of a text, from start on and ahead of stop, and what two scripts have in its place.

    who tells which of the scripts is followed there: "one", "other", "both",
    None if nothing is touched, "conflict" if neither can be.
    """

    def __init__(self, text, start, stop, fates):
        self.start = start
        self.stop = stop
        self.mine, self.yours = [text_there(text, start, stop, own) for own in fates]
        one, other = [is_touched(start, stop, own) for own in fates]
        all_go = not any([own.stays[place] for own in fates for place in range(start, stop)])
        if one and other:
            self.who = "both" if all_go and self.mine == self.yours else "conflict"
        elif one:
            self.who = "one"
        else:
            self.who = "other" if other else None


def text_there(text, start, stop, fates):
    """What a script has in the place of a piece."""
    told = [fates.puts[start]]
    for place in range(start, stop):
        told.append(text[place] if fates.stays[place] else "")
        told.append(fates.puts[place + 1])
    return "".join(told)


def is_touched(start, stop, fates):
    """Whether a script touches a piece."""
    return not all(fates.stays[start:stop]) or any([word != "" for word in fates.puts[start:stop + 1]])


def found_pieces(text, one, other):
    """All pieces of two scripts, from left to right; raises Refused."""
    fates = (fates_of(one, text), fates_of(other, text))
    found = []
    start = 0
    for place in range(len(text) + 1):
        if place == len(text) or fates[0].stays[place] and fates[1].stays[place]:
            found.append(Piece(text, start, place, fates))
            start = place + 1
    return found


def merged_without_conflict(text, one, other):
    """All pieces of two scripts; raises Refused, and Conflict with the first one in conflict."""
    found = found_pieces(text, one, other)
    for piece in found:
        if piece.who == "conflict":
            raise Conflict(piece.start, piece.stop)
    return found


def conflict_pieces(text, one, other):
    """The pieces in conflict: tuples (start, stop, mine, yours); raises Refused."""
    return tuple([(piece.start, piece.stop, piece.mine, piece.yours)
                  for piece in found_pieces(text, one, other) if piece.who == "conflict"])


def merged_text(text, one, other):
    """The merged text; raises Refused, Conflict."""
    return "".join([part for part, _ in merged_pieces(text, one, other)])


def merged_hunks(text, one, other):
    """The hunks of both scripts, equal ones once; raises Refused, Conflict."""
    merged_without_conflict(text, one, other)
    hunks = {hunk: True for hunk in fates_of(one, text).hunks + fates_of(other, text).hunks}
    return tuple(sorted(list(hunks)))


def merged_pieces(text, one, other):
    """The merged text in parts, each with who has made it; raises Refused, Conflict."""
    parts = []
    at = 0
    for piece in merged_without_conflict(text, one, other):
        if piece.who is None:
            continue
        if at < piece.start:
            parts.append((text[at:piece.start], None))
        parts.append((piece.yours if piece.who == "other" else piece.mine, piece.who))
        at = piece.stop
    if at < len(text):
        parts.append((text[at:], None))
    return tuple(parts)
