"""Texts that become one."""

from textworkshop.questions import check_question, parts_of, question_signs, script_ways
from textworkshop.searches import rest_of, told_moves

# Stands for the state of a way that has ended.
ENDED = -1


def clash_texts(script, *, under=None):
    """Two unlike texts of which a script makes the same one, with the fewest signs of both; None if there are none."""
    parts = parts_of(script)
    check_question(parts * 2, [under, under])
    return ClashSearch(script_ways(parts, question_signs(parts, [under]), under)).nearest()


class ClashSearch:
    """Two ways over two texts, of which the one that has told less goes on.

    A node is a tuple (state, text, more, last, other): the state and the text of
    the way that has told more, what it has told more, and the state and the
    text of the way that goes on. What matters of the texts is what one has more
    than the other one, or that they are unlike already: for each two states,
    and what one has told more, two such rests are enough.
    """

    def __init__(self, ways):
        self._ways = ways
        self._arrows = [arrows_by_told(row, ways.signs) for row in told_moves(ways)]
        self._met = {}

    def nearest(self):
        """The two texts with the fewest signs, None if there are none."""
        level = [node for one, word in self._ways.starts for two, told in self._ways.starts
                 for node in self._fresh((one, "", word), (two, "", told))]
        while level:
            # An end costs no sign, so what it leads to belongs to the same level.
            at = 0
            while at < len(level):
                level.extend(self._ended(level[at]))
                at += 1
            for state, text, _, last, other in level:
                if state == last == ENDED:
                    return text, other
            level = [to for node in level for to in self._read(node)]
        return None

    def _ended(self, node):
        """The nodes behind the end of the way that goes on."""
        state, text, more, last, other = node
        if last == ENDED or self._ways.ends[last] is None:
            return []
        return self._fresh((state, text, more), (ENDED, other, self._ways.ends[last]))

    def _read(self, node):
        """The nodes behind one more sign of the way that goes on."""
        state, text, more, last, other = node
        found = []
        if last != ENDED:
            for begun, arrows in self._arrows[last].items():
                if not more or not begun or begun == more[0]:
                    for sign, to, told in arrows:
                        found.extend(self._fresh((state, text, more), (to, other + sign, told)))
        return found

    def _fresh(self, first, second):
        """The node of two ways, told by state, text and what was told, if it has to be followed, in a list."""
        rest = rest_of(first[2], second[2])
        if rest is None:
            return []
        if rest[1] or not rest[0] and second[0] == ENDED:
            first, second, rest = second, first, (rest[1], rest[0])
        more = rest[0]
        texts = rest_of(first[1], second[1])
        if second[0] == ENDED and (more or texts == ("", "")):
            return []
        rests = self._met.setdefault((first[0], second[0], more), [])
        if texts in rests or None in rests or len(rests) == 2:
            return []
        rests.append(texts)
        return [(first[0], first[1], more, second[0], second[1])]


def arrows_by_told(row, signs):
    """The moves from a state by the first sign that they tell, "" for none: lists of tuples (sign, to, told)."""
    arrows = {}
    for sign, moves in zip(signs, row):
        for to, told in moves:
            arrows.setdefault(told[:1], []).append((sign, to, told))
    return arrows
