"""The ways of steps that exchange words, and of wants."""

from textworkshop.kindwords import letter_of
from textworkshop.readings import ReadingMachine
from textworkshop.ways import Machine, met_ways
from textworkshop.wordtables import meeting_rows


class Meeting:
    """How much of a word's beginning stands at the end of what was read."""

    def __init__(self, word):
        self.word = word
        self._named, self._rows = meeting_rows(word)
        # Behind the whole word, as much of it as stands at its end again.
        self.again = max([many for many in range(len(word)) if word.endswith(word[:many])])
        # A place may begin here only if no place that began ahead of it would come to its end.
        self._may_begin = [(word[:many] + word).find(word) == many for many in range(len(word))]

    def moved(self, many, sign):
        """How much stands at the end behind one more sign."""
        return self._rows[many][self._named.find(sign)]

    def is_whole(self, many):
        """Whether the word stands at the end."""
        return many == len(self.word)

    def may_begin(self, many, sign):
        """Whether a place that is taken may begin with this sign."""
        return self._may_begin[many] and sign == self.word[0]


class PlaceMachine:
    """The moves of a step that takes places of a word.

    Its states are ("out", many), with so much of the word's beginning at the
    end, and ("in", many), behind so many signs of a place that is taken;
    behind is the state behind a place.
    """

    def __init__(self, step, behind):
        self.meeting = Meeting(step.old)
        self._new = step.new
        self._behind = behind

    def moved(self, state, sign):
        """Where a sign leads that may lie in a place."""
        label, many = state
        if label == "in":
            return [self._taken(many)] if sign == self.meeting.word[many] else []
        found = []
        after = self.meeting.moved(many, sign)
        if not self.meeting.is_whole(after):
            found.append((("out", after), "", True, ""))
        if self.meeting.may_begin(many, sign):
            found.append(self._taken(0))
        return found

    def _taken(self, many):
        """The move along the sign of a place behind so many other ones."""
        if many + 1 == len(self.meeting.word):
            return self._behind, "", False, self._new
        return ("in", many + 1), "", False, ""


class ReplaceMachine(Machine):
    """replace, anywhere."""

    def __init__(self, step):
        self._places = PlaceMachine(step, ("out", 0))

    def firsts(self):
        """Where ways begin."""
        return [(("out", 0), "")]

    def moved(self, state, sign):
        """Where a sign leads."""
        return self._places.moved(state, sign)

    def ended(self, state):
        """What is put at the end."""
        return "" if state[0] == "out" else None


class FirstMachine(Machine):
    """first: behind its place all signs stay."""

    def __init__(self, step):
        self._places = PlaceMachine(step, ("done",))

    def firsts(self):
        """Where ways begin."""
        return [(("out", 0), "")]

    def moved(self, state, sign):
        """Where a sign leads."""
        return [(state, "", True, "")] if state[0] == "done" else self._places.moved(state, sign)

    def ended(self, state):
        """What is put at the end."""
        return None if state[0] == "in" else ""


class OnceMachine(Machine):
    """once: behind its place there is no other one; or else the text is refused, with no place, or with several.

    ("refused", places, many) counts the places up to two.
    """

    def __init__(self, step, number, refusing):
        self._meeting = Meeting(step.old)
        self._places = PlaceMachine(step, ("done", self._meeting.again))
        self._number = number
        self._refusing = refusing

    def refuser(self, state):
        """The number of the step, if it refuses."""
        return self._number if state[0] == "refused" else None

    def firsts(self):
        """Where ways begin."""
        found = [(("out", 0), "")]
        if self._refusing:
            found.append((("refused", 0, 0), ""))
        return found

    def moved(self, state, sign):
        """Where a sign leads."""
        if state[0] == "refused":
            return [(self._counted(state[1], state[2], sign), "", False, "")]
        if state[0] != "done":
            return self._places.moved(state, sign)
        after = self._meeting.moved(state[1], sign)
        return [] if self._meeting.is_whole(after) else [(("done", after), "", True, "")]

    def _counted(self, places, many, sign):
        """The state of a text that is refused behind one more sign."""
        if places == 2:
            return "refused", 2, 0
        after = self._meeting.moved(many, sign)
        if not self._meeting.is_whole(after):
            return "refused", places, after
        return "refused", places + 1, self._meeting.again if places == 0 else 0

    def ended(self, state):
        """What is put at the end."""
        if state[0] == "refused":
            return None if state[1] == 1 else ""
        return "" if state[0] == "done" else None


class WantMachine(Machine):
    """want: a text is let as it is, or refused."""

    def __init__(self, table, number, refusing):
        self._table = table
        self._number = number
        self._refusing = refusing

    def refuser(self, state):
        """The number of the step, if it refuses."""
        return self._number if state[0] == "refused" else None

    def firsts(self):
        """Where ways begin."""
        found = [(("kept", 0), "")]
        if self._refusing:
            found.append((("refused", 0), ""))
        return found

    def moved(self, state, sign):
        """Where a sign leads."""
        label, number = state
        return [((label, self._table.moved(number, sign)), "", label == "kept", "")]

    def ended(self, state):
        """What is put at the end."""
        return "" if self._table.is_good(state[1]) == (state[0] == "kept") else None


class KindMachine(Machine):
    """Guesses of each sign whether it has a kind: it stays if it has.

    A state has the stand of the reading, and the guesses that are not settled
    yet.
    """

    def __init__(self, tongue, kind):
        self._machine = ReadingMachine(tongue)
        self._letter = letter_of(kind)

    def firsts(self):
        """Where ways begin."""
        return [((self._machine.beginning, ()), "")]

    def moved(self, state, sign):
        """Where a sign leads."""
        stand, guesses = state
        after, pairs = self._machine.moved(stand, sign)
        found = []
        for guess in (True, False):
            rest = self._unsettled((*guesses, guess), pairs)
            if rest is not None:
                found.append(((after, rest), "", guess, ""))
        return found

    def _unsettled(self, guesses, pairs):
        """The guesses without those that were settled; None if one of these was wrong."""
        for guess, (_, kind) in zip(guesses, pairs):
            if guess != (kind == self._letter):
                return None
        return guesses[len(pairs):]

    def ended(self, state):
        """What is put at the end."""
        return "" if self._unsettled(state[1], self._machine.ended(state[0])) == () else None


class KindReplaceMachine(Machine):
    """replace in a kind; a state has the state of the guesses about kinds ahead of that of the places."""

    def __init__(self, step, tongue, signs):
        self._kinds = met_ways(signs, KindMachine(tongue, step.kind))
        self._places = PlaceMachine(step, ("out", 0))

    def firsts(self):
        """Where ways begin."""
        return [((kinds, "out", 0), "") for kinds, _ in self._kinds.starts]

    def moved(self, state, sign):
        """Where a sign leads."""
        kinds, label, many = state
        found = []
        for after, _, guess, _ in self._kinds.moves[kinds][self._kinds.places[sign]]:
            if guess:
                found.extend([((after, *to), ahead, stays, behind)
                              for to, ahead, stays, behind in self._places.moved((label, many), sign)])
            elif label == "out":
                found.append(((after, "out", 0), "", True, ""))
        return found

    def ended(self, state):
        """What is put at the end."""
        return self._kinds.ends[state[0]] if state[1] == "out" else None
