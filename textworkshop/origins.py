"""What stays of a text, what goes, and what is put."""

from textworkshop.deeds import deed_of, done_text
from textworkshop.errors import BadNumber, BadWord, Refused
from textworkshop.signs import is_text, is_whole


class Fates:
    """What a script does to the signs and gaps of a text; not made by callers.

    found has for each sign that is left its gap and the number of the step that
    put it, None for a sign of the text: then the gap is its place.
    """

    def __init__(self, text, result, found):
        stays = [False for _ in text]
        puts = [[] for _ in range(len(text) + 1)]
        makers = [[] for _ in puts]
        for sign, (gap, maker) in zip(result, found):
            if maker is None:
                stays[gap] = True
            else:
                puts[gap].append(sign)
                makers[gap].append(maker)
        self.stays = tuple(stays)
        self.puts = tuple(["".join(signs) for signs in puts])
        self.makers = tuple([tuple(numbers) for numbers in makers])
        self.result = result
        self.hunks = hunks_of(self.stays, self.puts)


def hunks_of(stays, puts):
    """Tuples (start, stop, word) of what goes and is put between signs that stay."""
    hunks = []
    start = 0
    for place in range(len(puts)):
        if place < len(stays) and not stays[place]:
            continue
        word = "".join(puts[start:place + 1])
        if word or start < place:
            hunks.append((start, place, word))
        start = place + 1
    return tuple(hunks)


def fates_of(script, text):
    """The fates of a text; raises BadWord, Refused."""
    result, found = traced(script, text)
    return Fates(text, result, found)


def origins_of(script, text):
    """The places from which the signs of the text that is left come, None for those that were put."""
    return tuple([place if maker is None else None for place, maker in traced(script, text)[1]])


def place_behind(script, text, place):
    """The place to which the sign at a place comes, None if it goes; raises BadNumber."""
    found = traced(script, text)[1]
    if not is_whole(place) or not 0 <= place < len(text):
        raise BadNumber("place", place)
    for behind, origin in enumerate(found):
        if origin == (place, None):
            return behind
    return None


def traced(script, text):
    """The text that is left, and of each of its signs the gap and the step that put it, or its place and None.

    What a step puts stands ahead of the sign behind it: in the gap of this sign
    if that one was put, too, and else in the gap ahead of it.
    """
    if not is_text(text):
        raise BadWord("text")
    found = [(place, None) for place in range(len(text))]
    result = text
    for number, step in enumerate(script.steps):
        deed = deed_of(step, result, script.tongue)
        if deed is None:
            raise Refused(number)
        fresh = []
        at = 0
        for start, stop, word in deed:
            fresh.extend(found[at:start])
            gap = found[stop][0] if stop < len(found) else len(text)
            fresh.extend([(gap, number)] * len(word))
            at = stop
        fresh.extend(found[at:])
        found, result = fresh, done_text(result, deed)
    return result, found
