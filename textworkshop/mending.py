"""Texts mended: the nearest texts that keep a guard."""

from textworkshop.errors import BadWord
from textworkshop.guardsets import guard_set
from textworkshop.signs import all_signs, is_text
from textworkshop.tonguesets import check_weight


def mended_text(guard, text, tongue=None):
    """The fewest changes by which a text keeps a guard, and the first shortest text to which so many lead."""
    if not is_text(text):
        raise BadWord("text")
    table = guard_set(guard, tongue).table
    check_weight(table.states * (len(text) + 1))
    mending = Mending(table, text)
    if mending.many is None:
        return None
    return mending.many, mending.first_result()


class Mending:
    """All ways by which a text becomes one of a table with the fewest changes.

    A spot is a tuple of how many signs of the text were passed and of the state
    behind what stands in their place. many tells the fewest changes, None if
    there is no way.
    """

    def __init__(self, table, text):
        self._table = table
        self._text = text
        spare = [sign for sign in all_signs() if sign not in table.named][0]
        self._signs = sorted([spare, *table.named])
        self._costs = {}
        self.many = self._spread()
        self._rests = self._shortest_rests()

    def _is_end(self, spot):
        """Whether a text may end at a spot."""
        return spot[0] == len(self._text) and self._table.is_good(spot[1])

    def _free_spots(self, spot):
        """A spot, and all those to which signs lead from it that stay."""
        place, state = spot
        spots = [spot]
        while place < len(self._text):
            state = self._table.moved(state, self._text[place])
            place += 1
            spots.append((place, state))
        return spots

    def _changes(self, spot):
        """The spots behind one change, with the signs that it writes, in their order; without a sign for none."""
        place, state = spot
        changes = []
        for sign in self._signs:
            to = self._table.moved(state, sign)
            changes.append((sign, (place, to)))
            if place < len(self._text):
                changes.append((sign, (place + 1, to)))
        if place < len(self._text):
            changes.append(("", (place + 1, state)))
        return changes

    def _spread(self):
        """Notes the fewest changes to each spot, up to those to the nearest end, and tells these."""
        changes, level = 0, [(0, 0)]
        while level:
            fresh = []
            for start in level:
                spots = self._free_spots(start)
                for spot in spots:
                    if spot in self._costs:
                        break
                    self._costs[spot] = changes
                    fresh.append(spot)
            if any([self._is_end(spot) for spot in fresh]):
                return changes
            level = [to for spot in fresh for _, to in self._changes(spot) if to not in self._costs]
            changes += 1
        return None

    def _onward(self, spot):
        """The ways on from a spot that are not dearer than they must be: tuples (sign, spot)."""
        place, state = spot
        cost = self._costs[spot]
        ways = [(sign, to) for sign, to in self._changes(spot) if self._costs.get(to) == cost + 1]
        if place < len(self._text):
            sign = self._text[place]
            to = (place + 1, self._table.moved(state, sign))
            if self._costs.get(to) == cost:
                ways.append((sign, to))
        return ways

    def _shortest_rests(self):
        """From each spot with a way to an end that is reached so cheaply, how many signs it writes at least."""
        rests = {}
        costs = self._costs
        for spot in sorted(list(costs), key=lambda spot: (-costs[spot], -spot[0])):
            many = [rests[to] + len(sign) for sign, to in self._onward(spot) if to in rests]
            if self._is_end(spot):
                many.append(0)
            if many:
                rests[spot] = min(many)
        return rests

    def first_result(self):
        """The first of the shortest texts to which the fewest changes lead."""
        signs = []
        left = self._rests[(0, 0)]
        spots = self._without_signs({(0, 0): True})
        while left:
            left -= 1
            ways = [(sign, to) for spot in spots for sign, to in self._onward(spot)
                    if sign and self._rests.get(to) == left]
            least = min([sign for sign, _ in ways])
            signs.append(least)
            spots = self._without_signs({to: True for sign, to in ways if sign == least})
        return "".join(signs)

    def _without_signs(self, found):
        """The spots, and those to which they lead when signs are only taken away, on shortest ways."""
        spots = list(found)
        at = 0
        while at < len(spots):
            spot = spots[at]
            ways = self._onward(spot)
            for sign, to in ways:
                if not sign and to not in found and self._rests.get(to) == self._rests[spot]:
                    found[to] = True
                    spots.append(to)
            at += 1
        return spots
