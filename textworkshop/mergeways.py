"""Two scripts over the same text, side by side, as they are merged.

What must be known of the piece that is read is a tuple (label, more, less). The
label tells who has touched it: "none", "one", "other" or "both"; while all its
signs went by both scripts, more and less are what each one has put more than
the other one. Behind a sign that went by one script alone it is "one alone" or
"other alone". A piece in conflict is CONFLICT.
"""

from textworkshop.searches import first_shown, rest_of
from textworkshop.ways import Machine, alive_states, met_ways

CONFLICT = ("conflict", "", "")
FRESH = ("none", "", "")


def with_words(piece, mine, yours):
    """The piece behind words that the scripts put, and what the merged text has more."""
    label, more, less = piece
    if label == "conflict" or not mine and not yours:
        return piece, ""
    if label in ("one alone", "other alone"):
        own, strange = (mine, yours) if label == "one alone" else (yours, mine)
        return (CONFLICT, "") if strange else (piece, own)
    rest = rest_of(more + mine, less + yours)
    if rest is None:
        return CONFLICT, ""
    longer = max(more + mine, less + yours, key=len)
    return (touched(label, mine, yours), *rest), longer[max(len(more), len(less)):]


def touched(label, mine, yours):
    """Who has touched a piece, with words that the scripts put."""
    one = label in ("one", "both") or mine != ""
    other = label in ("other", "both") or yours != ""
    if one and other:
        return "both"
    return "one" if one else "other"


def behind_sign(piece, stays, other_stays):
    """The piece behind a sign that stays or goes by each of the scripts."""
    label, more, less = piece
    if stays and other_stays:
        return CONFLICT if is_conflict(piece) else FRESH
    if not stays and not other_stays:
        return CONFLICT if label in ("conflict", "one alone", "other alone") else ("both", more, less)
    owner = "other" if stays else "one"
    return (f"{owner} alone", "", "") if label in ("none", owner, f"{owner} alone") else CONFLICT


def is_conflict(piece):
    """Whether a piece that ends here is in conflict."""
    label, more, less = piece
    return label == "conflict" or label == "both" and more + less != ""


class PairMachine(Machine):
    """Two ways over the same text; a state has the states of both."""

    def __init__(self, one, other):
        self._one = one
        self._other = other

    def firsts(self):
        """Where ways begin."""
        return [((one, other), "") for one, _ in self._one.starts for other, _ in self._other.starts]

    def moved(self, state, sign):
        """Where a sign leads."""
        at = self._one.places[sign]
        return [((one[0], other[0]), "", True, "")
                for one in self._one.moves[state[0]][at] for other in self._other.moves[state[1]][at]]

    def ended(self, state):
        """What is put at the end."""
        return None if self._one.ends[state[0]] is None or self._other.ends[state[1]] is None else ""


class SideMachine(Machine):
    """The merged texts of two scripts; a state has the states of both, and the piece.

    Ways go on behind a conflict, but what they tell from there on means nothing.
    """

    def __init__(self, one, other):
        self._one = one
        self._other = other

    def firsts(self):
        """Where ways begin."""
        found = []
        for one, mine in self._one.starts:
            for other, yours in self._other.starts:
                piece, told = with_words(FRESH, mine, yours)
                found.append(((one, other, piece), told))
        return found

    def moved(self, state, sign):
        """Where a sign leads."""
        at = self._one.places[sign]
        found = []
        for one, *mine in self._one.moves[state[0]][at]:
            for other, *yours in self._other.moves[state[1]][at]:
                piece, ahead = with_words(state[2], mine[0], yours[0])
                piece = behind_sign(piece, mine[1], yours[1])
                piece, behind = with_words(piece, mine[2], yours[2])
                found.append(((one, other, piece), ahead, mine[1] and yours[1], behind))
        return found

    def last_piece(self, state):
        """The last piece and what is told with it if the text ends here, None if it cannot."""
        mine, yours = self._one.ends[state[0]], self._other.ends[state[1]]
        return None if mine is None or yours is None else with_words(state[2], mine, yours)

    def ended(self, state):
        """What is put at the end."""
        last = self.last_piece(state)
        return None if last is None else last[1]


class MergeMachine(Machine):
    """The merged texts of two scripts that have no conflict; pairs are those of their states that can end together."""

    def __init__(self, sides, pairs):
        self._sides = sides
        self._pairs = pairs

    def _can_end(self, state):
        """Whether the scripts can end together; then they have no conflict behind them."""
        return (state[0], state[1]) in self._pairs

    def firsts(self):
        """Where ways begin."""
        return [(state, told) for state, told in self._sides.firsts() if self._can_end(state)]

    def moved(self, state, sign):
        """Where a sign leads."""
        return [move for move in self._sides.moved(state, sign) if self._can_end(move[0])]

    def ended(self, state):
        """What is put at the end."""
        return self._sides.ended(state)


def merged_ways(one, other):
    """The ways of the merged texts of two scripts that have no conflict."""
    return met_ways(one.signs, MergeMachine(SideMachine(one, other), alive_states(one.signs, PairMachine(one, other))))


class ConflictSearch:
    """All pieces that two scripts may come to, with the states of both.

    Behind a conflict nothing else matters of a piece; ahead of it, as in
    comparing two results, two rests are enough for each two states and label.
    """

    def __init__(self, one, other):
        self._sides = SideMachine(one, other)
        self._signs = one.signs
        self._met = {}

    def shortest(self):
        """A shortest text with a conflict, None if there is none."""
        starts = self._fresh([state for state, _ in self._sides.firsts()])
        return first_shown(self._signs, starts,
                           lambda state, at: self._onward(state, at),
                           lambda state: self._is_shown(state))

    def _onward(self, state, at):
        """The states behind a sign."""
        return self._fresh([move[0] for move in self._sides.moved(state, self._signs[at])])

    def _fresh(self, states):
        """The states that have to be followed."""
        found = []
        for one, other, piece in states:
            label, more, less = piece
            rests = self._met.setdefault((one, other, label), [])
            if (one, other, "conflict") in self._met and (label != "conflict" or rests):
                continue
            if (more, less) not in rests and len(rests) < 2:
                rests.append((more, less))
                found.append((one, other, piece))
        return found

    def _is_shown(self, state):
        """Whether the text may end here, with a conflict."""
        last = self._sides.last_piece(state)
        return last is not None and is_conflict(last[0])
