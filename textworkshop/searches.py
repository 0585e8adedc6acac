"""Searches for the first of the shortest texts that show something."""


def first_shown(signs, starts, onward, is_shown):
    """The first of the shortest texts along which a node is met that shows something, None if there is none.

    Texts are gone through by their length, and those of a length by the order
    of signs. onward(node, at) tells the nodes behind the sign with this place
    that are to be followed.
    """
    level = [("", starts)]
    while level:
        for text, nodes in level:
            if any([is_shown(node) for node in nodes]):
                return text
        further = []
        for text, nodes in level:
            for at, sign in enumerate(signs):
                found = [to for node in nodes for to in onward(node, at)]
                if found:
                    further.append((text + sign, found))
        level = further
    return None


def shortest_way(ways, is_shown=None):
    """The first of the shortest texts with a way that ends, in a state that is shown if this is asked."""
    met = {}

    def fresh(states):
        """The states that were not met yet."""
        found = [one for one in states if one not in met]
        met.update({one: True for one in found})
        return found

    def onward(state, at):
        """The states behind a sign."""
        return fresh([arrow[0] for arrow in ways.moves[state][at]])

    def is_end(state):
        """Whether the text may end here."""
        return ways.ends[state] is not None and (is_shown is None or is_shown(state))

    return first_shown(ways.signs, fresh([state for state, _ in ways.starts]), onward, is_end)


def rest_of(more, less):
    """What each of two texts has more than the other one, None if they are unlike already."""
    if more.startswith(less):
        return more[len(less):], ""
    if less.startswith(more):
        return "", less[len(more):]
    return None


def told_moves(ways):
    """The moves of ways with what they put and let stay in one text: tuples (to, told)."""
    return [[[(to, ahead + (sign if stays else "") + behind) for to, ahead, stays, behind in arrows]
             for sign, arrows in zip(ways.signs, row)] for row in ways.moves]


class Comparing:
    """Two ways over the same text, side by side.

    A node is a tuple of both states and of the rest: what each one has put and
    let stay more than the other one, None if they are unlike already, or one of
    them refuses. Of each two states two rests are enough: whatever comes, only
    one rest makes both results the same.
    """

    def __init__(self, one, two):
        self._one = one
        self._two = two
        self._moves = told_moves(one)
        self._others = told_moves(two)
        self._met = {}

    def first_unlike(self):
        """The first of the shortest texts that one of both refuses alone, or of which they make two texts; or None.

        Only texts that have ways in both are looked at.
        """
        starts = []
        for one, word in self._one.starts:
            for two, other in self._two.starts:
                starts.extend(self._fresh(one, two, rest_of(word, other)))
        return first_shown(self._one.signs, starts,
                           lambda node, at: self._onward(node, at),
                           lambda node: self._is_shown(node))

    def _fresh(self, one, two, rest):
        """The node if it has to be followed, in a list."""
        refusers = (self._one.refusers[one] is not None) + (self._two.refusers[two] is not None)
        if refusers == 2:
            return []
        if refusers == 1:
            rest = None
        rests = self._met.setdefault((one, two), [])
        if rest in rests or None in rests or len(rests) == 2:
            return []
        rests.append(rest)
        return [(one, two, rest)]

    def _onward(self, node, at):
        """The nodes behind a sign."""
        one, two, rest = node
        found = []
        for to, told in self._moves[one][at]:
            for other, more in self._others[two][at]:
                fresh = rest if rest is None else rest_of(rest[0] + told, rest[1] + more)
                found.extend(self._fresh(to, other, fresh))
        return found

    def _is_shown(self, node):
        """Whether the text may end here, and is a difference."""
        one, two, rest = node
        word, other = self._one.ends[one], self._two.ends[two]
        if word is None or other is None:
            return False
        return rest is None or rest[0] + word != rest[1] + other
