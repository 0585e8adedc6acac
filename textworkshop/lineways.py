"""The ways of steps on lines."""

from textworkshop.linemachines import LineMachine
from textworkshop.ways import Machine
from textworkshop.weights import test_guess
from textworkshop.wordways import PlaceMachine


class LineGuesses:
    """What is guessed of the truth of a test for the line that is read.

    A line is a tuple of what the test knows of it, and of the guess. No guess
    is needed where the truth is known from the beginning.
    """

    def __init__(self, test):
        self._machine = LineMachine(test)
        self._sure = test_guess(test) == 1

    def begun(self, known=0):
        """The lines that may begin here."""
        truths = (self._machine.truth(known, False),) if self._sure else (True, False)
        return [(known, truth) for truth in truths]

    def moved(self, line, sign):
        """The line behind one more sign, which is no newline."""
        return self._machine.moved(line[0], sign), line[1]

    def behind(self, line):
        """The lines that may begin behind a newline; none if the guess was wrong."""
        known, truth = line
        if self._machine.truth(known, False) != truth:
            return []
        return self.begun(self._machine.behind(known))

    def may_end(self, line):
        """Whether the text may end with this line."""
        return self._machine.truth(line[0], True) == line[1]


class LinesMachine(Machine):
    """drop and keep; a state has the line, and whether a line ahead of it is left."""

    def __init__(self, step):
        self._guesses = LineGuesses(step.test)
        self._keeps = step.word == "keep"

    def firsts(self):
        """Where ways begin."""
        return [((line, False), "") for line in self._guesses.begun()]

    def moved(self, state, sign):
        """Where a sign leads."""
        line, left = state
        stays = line[1] == self._keeps
        if sign != "\n":
            return [((self._guesses.moved(line, sign), left), "", stays, "")]
        left = left or stays
        return [((after, left), "", left and after[1] == self._keeps, "") for after in self._guesses.behind(line)]

    def ended(self, state):
        """What is put at the end."""
        return "" if self._guesses.may_end(state[0]) else None


class AheadMachine(Machine):
    """ahead and above: the word is put where a line begins."""

    def __init__(self, step, word):
        self._guesses = LineGuesses(step.test)
        self._word = word

    def _put(self, line):
        """What is put at the beginning of a line."""
        return self._word if line[1] else ""

    def firsts(self):
        """Where ways begin."""
        return [((line,), self._put(line)) for line in self._guesses.begun()]

    def moved(self, state, sign):
        """Where a sign leads."""
        if sign != "\n":
            return [((self._guesses.moved(state[0], sign),), "", True, "")]
        return [((line,), "", True, self._put(line)) for line in self._guesses.behind(state[0])]

    def ended(self, state):
        """What is put at the end."""
        return "" if self._guesses.may_end(state[0]) else None


class BehindMachine(Machine):
    """behind and below: the word is put where a line ends, so nothing is guessed."""

    def __init__(self, step, word):
        self._machine = LineMachine(step.test)
        self._word = word

    def _put(self, known, is_last):
        """What is put at the end of a line."""
        return self._word if self._machine.truth(known, is_last) else ""

    def firsts(self):
        """Where ways begin."""
        return [((0,), "")]

    def moved(self, state, sign):
        """Where a sign leads."""
        known = state[0]
        if sign != "\n":
            return [((self._machine.moved(known, sign),), "", True, "")]
        return [((self._machine.behind(known),), self._put(known, False), True, "")]

    def ended(self, state):
        """What is put at the end."""
        return self._put(state[0], True)


class StripMachine(Machine):
    """strip; a state has the line, and what was read of its beginning.

    ("on", many) are the signs of a word that is taken away, ("off", many) those
    of a beginning that is none; ("free", 0) is behind both.
    """

    def __init__(self, step):
        self._guesses = LineGuesses(step.test)
        self._word = step.old

    def _begun(self, line):
        """The state at the beginning of a line."""
        return (line, "off", 0) if line[1] else (line, "free", 0)

    def firsts(self):
        """Where ways begin."""
        return [(self._begun(line), "") for line in self._guesses.begun()]

    def moved(self, state, sign):
        """Where a sign leads."""
        line, label, many = state
        if sign == "\n":
            lines = [] if label == "on" else self._guesses.behind(line)
            return [(self._begun(after), "", True, "") for after in lines]
        line = self._guesses.moved(line, sign)
        if label == "free" or sign != self._word[many]:
            return [] if label == "on" else [((line, "free", 0), "", True, "")]
        is_whole = many + 1 == len(self._word)
        found = []
        if label == "off" and not is_whole:
            found.append(((line, "off", many + 1), "", True, ""))
        if label == "on" or many == 0:
            found.append(((line, "free", 0) if is_whole else (line, "on", many + 1), "", False, ""))
        return found

    def ended(self, state):
        """What is put at the end."""
        return "" if state[1] != "on" and self._guesses.may_end(state[0]) else None


class LineReplaceMachine(Machine):
    """replace on lines; a state has the line ahead of the state of the places."""

    def __init__(self, step):
        self._guesses = LineGuesses(step.test)
        self._places = PlaceMachine(step, ("out", 0))

    def firsts(self):
        """Where ways begin."""
        return [((line, "out", 0), "") for line in self._guesses.begun()]

    def moved(self, state, sign):
        """Where a sign leads."""
        line, label, many = state
        if sign == "\n":
            lines = [] if label == "in" else self._guesses.behind(line)
            return [((after, "out", 0), "", True, "") for after in lines]
        after = self._guesses.moved(line, sign)
        if not line[1]:
            return [((after, "out", 0), "", True, "")]
        return [((after, *to), ahead, stays, behind)
                for to, ahead, stays, behind in self._places.moved((label, many), sign)]

    def ended(self, state):
        """What is put at the end."""
        return "" if state[1] == "out" and self._guesses.may_end(state[0]) else None
