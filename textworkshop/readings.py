"""Readings that go over a text sign by sign."""

from textworkshop.stands import CODE

# The blank is in no mark and no escape, so it can stand for any such sign.
PLAIN_SIGN = " "


class ReadingMachine:
    """Tells stands of a tongue, and the kinds that are settled on the way.

    A stand is a mode, as stands.py tells them, and behind it the text of the
    signs that are not settled yet: they are the beginning of a mark.
    """

    def __init__(self, tongue):
        self.tongue = tongue
        self.beginning = (*CODE, "")

    def moved(self, stand, sign):
        """The stand behind one more sign, and the pairs (sign, kind) that it settles."""
        *mode, waiting = stand
        text = waiting + (PLAIN_SIGN if sign is None else sign)
        after, place, kinds = self.tongue.reader.read(tuple(mode), text, False)
        told, rest = [*waiting, sign], text[place:]
        return (*after, rest), tuple(zip(told, kinds))

    def ended(self, stand):
        """The pairs that are not settled yet, if the text ends here."""
        *mode, waiting = stand
        return tuple(zip(waiting, self.tongue.reader.read(tuple(mode), waiting, True)[2]))
