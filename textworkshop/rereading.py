"""Texts that are edited, with their kinds."""

from textworkshop.errors import BadPlace
from textworkshop.signs import is_whole
from textworkshop.stands import CODE


class Rereading:
    """A text that is edited, with its kinds; lines are read again only as far as an edit reaches."""

    def __init__(self, tongue, text):
        kinds, modes, _, _ = read_again(tongue.reader, CODE, text, (0, len(text)), [])
        self.tongue = tongue
        self.text = text
        self._kinds = kinds
        self._modes = [CODE, *modes]

    def kinds(self):
        """The kinds of the signs of the text."""
        return self._kinds

    def write(self, place, text):
        """Puts a text in at a place; returns the stretch that is touched."""
        self.check_place(place, 0)
        return self.exchange(place, place, text)

    def cut(self, start, stop):
        """Takes signs out; returns the stretch that is touched."""
        self.check_place(start, 0)
        self.check_place(stop, start)
        return self.exchange(start, stop, "")

    def check_place(self, place, least):
        """Raises BadPlace for a value that is no place from the least one on."""
        if not is_whole(place) or not least <= place <= len(self.text):
            raise BadPlace(place)

    def exchange(self, start, stop, put):
        """Puts a text in the place of some signs; returns the stretch that is touched."""
        old, old_kinds = self.text, self._kinds
        text = old[:start] + put + old[stop:]
        ahead = self._modes[:old.count("\n", 0, start) + 1]
        behind = self._modes[old.count("\n", 0, stop) + 1:]
        begin, edited = old.rfind("\n", 0, start) + 1, start + len(put)
        kinds, modes, end, used = read_again(self.tongue.reader, ahead[-1], text, (begin, edited), behind)
        shift = len(text) - len(old)
        self.text = text
        self._kinds = old_kinds[:begin] + kinds + old_kinds[end - shift:]
        self._modes = [*ahead, *modes, *behind[used:]]
        touched = [place for place in range(begin, start) if self._kinds[place] != old_kinds[place]]
        touched.extend(list(range(start, edited)))
        touched.extend([place for place in range(edited, end) if self._kinds[place] != old_kinds[place - shift]])
        return (touched[0], touched[-1] + 1) if touched else (start, start)


def read_again(reader, mode, text, stretch, behind):
    """Reads lines from a place on, until one behind the edit begins in the mode it began in.

    stretch is the place where a line begins, in the mode told, and the place
    behind the edit; behind has the modes in which the lines behind it began.
    Returns the kinds that were read, the modes of the lines behind the first
    one, the place behind them, and how many of the modes of behind they replace.
    """
    place, edited = stretch
    kinds, modes, used = [], [], 0
    while True:
        end = text.find("\n", place) + 1
        mode, _, told = reader.read(mode, text[place:end] if end else text[place:], not end)
        kinds.append(told)
        if not end:
            return "".join(kinds), modes, len(text), used
        place = end
        if place > edited:
            if behind[used] == mode:
                return "".join(kinds), modes, place, used
            used += 1
        modes.append(mode)
