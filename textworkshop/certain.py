"""What is certain of the results of all texts that begin alike.

A way that is alive is a tuple (state, more, owed): what it has put and let stay
more than is certain, or how many certain signs it has not put yet.
"""

from textworkshop.searches import told_moves


class CertainWays:
    """The ways of a script that refuse no text, and of each state the common beginning of all that can still come."""

    def __init__(self, ways, named):
        self._ways = ways
        others = [at for at, sign in enumerate(ways.signs) if sign not in named]
        # A sign that nothing names does what any other such sign does.
        self._other = others[0] if others else None
        self._moves = told_moves(ways)
        self._sources = moves_into(self._moves)
        self._nearest = self._nearest_ends()
        self._common = self._common_beginnings()

    def _nearest_ends(self):
        """Of each state the move (place of the sign, to, told) with which a shortest way to an end goes on, or None."""
        nearest = {state: None for state, word in enumerate(self._ways.ends) if word is not None}
        work = list(nearest)
        at = 0
        while at < len(work):
            for state, place, told in self._sources[work[at]]:
                if state not in nearest:
                    nearest[state] = (place, work[at], told)
                    work.append(state)
            at += 1
        return nearest

    def _common_beginnings(self):
        """What all that can come from each state begins with: made shorter until nothing changes any more."""
        common = {}
        for state, move in self._nearest.items():
            common[state] = self._ways.ends[state] if move is None else move[2] + common[move[1]]
        work = list(common)
        waiting = {state: True for state in work}
        while work:
            state = work.pop()
            waiting[state] = False
            shorter = self._shortened(state, common)
            if shorter == common[state]:
                continue
            common[state] = shorter
            for source, _, _ in self._sources[state]:
                if common[source] and not waiting[source]:
                    waiting[source] = True
                    work.append(source)
        return common

    def _shortened(self, state, common):
        """What the common beginning of a state has in common with all that its moves tell."""
        shorter = common[state]
        for row in self._moves[state]:
            for to, told in row:
                if not shorter:
                    return shorter
                shorter = shared_beginning(shorter, told + common[to])
        return shorter

    def first_ways(self):
        """The ways that are alive behind the empty text."""
        return [(state, word, 0) for state, word in self._ways.starts]

    def moved(self, live, sign):
        """The ways that are alive behind one more sign."""
        at = self._ways.places.get(sign, self._other)
        found = []
        for state, more, owed in live:
            for to, ahead, stays, behind in self._ways.moves[state][at]:
                told = ahead + (sign if stays else "") + behind
                found.append((to, more + told[owed:], max(owed - len(told), 0)))
        return found

    def certain(self, live):
        """What is certain of all goings on, more than was told."""
        if not live:
            return ""
        told = [more + self._common[state][owed:] for state, more, owed in live]
        # What the first one and the last one in the order of signs have in common, all between them have.
        return shared_beginning(min(told), max(told))

    def parting(self, live):
        """Two texts with which the results part where what is told ends, None if all results are the same."""
        if not live:
            return None
        state, more, owed = live[0]
        rest, told = self._shortest_end(state)
        told = more + told[owed:]
        other = self._other_end(live, told[:1])
        return None if other is None else (rest, other)

    def _shortest_end(self, state):
        """A shortest text with which a way from a state ends, and what it tells."""
        signs, parts = [], []
        while self._nearest[state] is not None:
            at, state, told = self._nearest[state]
            signs.append(self._ways.signs[at])
            parts.append(told)
        return "".join(signs), "".join(parts) + self._ways.ends[state]

    def _other_end(self, live, begun):
        """A text whose result does not go on with the sign begun; if that is empty, one whose result goes on."""
        spots = {}
        for state, more, owed in live:
            if more and more[0] != begun:
                return self._shortest_end(state)[0]
            if not more:
                spots.setdefault((state, owed), "")
        work = list(spots)
        at = 0
        while at < len(work):
            (state, owed), text = work[at], spots[work[at]]
            word = self._ways.ends[state]
            if word is not None and word[owed:owed + 1] != begun:
                return text
            for place, row in enumerate(self._moves[state]):
                for to, told in row:
                    further = text + self._ways.signs[place]
                    if told[owed:] and told[owed] != begun:
                        return further + self._shortest_end(to)[0]
                    spot = (to, owed - len(told))
                    if len(told) <= owed and spot not in spots:
                        spots[spot] = further
                        work.append(spot)
            at += 1
        return None


def moves_into(moves):
    """Of each state the moves into it: tuples (state, place of the sign, told)."""
    sources = [[] for _ in moves]
    for state, row in enumerate(moves):
        for place, arrows in enumerate(row):
            for to, told in arrows:
                sources[to].append((state, place, told))
    return sources


def behind_told(live, many):
    """The ways that are alive, if so many more signs are told."""
    return [(state, more[many:], owed + max(many - len(more), 0)) for state, more, owed in live]


def shared_beginning(one, other):
    """The longest text with which both texts begin."""
    low, high = 0, min(len(one), len(other))
    while low < high:
        middle = (low + high + 1) // 2
        if one[low:middle] == other[low:middle]:
            low = middle
        else:
            high = middle - 1
    return one[:low]
