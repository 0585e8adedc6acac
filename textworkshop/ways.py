"""Ways: machines that go over a text once, and say of each sign at once what becomes of it.

What cannot be known yet is guessed, so a machine may go on in several ways; a
guess that turns out wrong has no end. Each text has at most one way that ends.
"""


class Machine:
    """What tells ways: its states are tuples; words are put, and a sign stays or goes.

    firsts() tells tuples (state, word): where ways begin, and what is put ahead
    of all signs. moved(state, sign) tells tuples (to, ahead, stays, behind).
    ended(state) tells the word that is put if the text ends here, None if it
    cannot.
    """

    def refuser(self, _state):
        """The number of the step that refuses the text if a way comes to this state; None if none does."""
        return None


class Ways:
    """The ways of a machine, by numbers of states; each state lies on a way that ends.

    starts, moves, ends and refusers are what the machine tells; moves has for
    each state a row of lists, one for each of the signs.
    """

    def __init__(self, signs, starts, moves, ends, refusers):
        self.signs = signs
        self.starts = starts
        self.moves = moves
        self.ends = ends
        self.refusers = refusers
        self.places = {sign: at for at, sign in enumerate(signs)}


def met_ways(signs, machine):
    """The ways of a machine for texts of these signs."""
    return trimmed(explored_ways(signs, machine)[1])


def alive_states(signs, machine):
    """The states of a machine that lie on a way that ends."""
    states, ways = explored_ways(signs, machine)
    return {state: True for state, hope in zip(states, ending_states(ways)) if hope}


def explored_ways(signs, machine):
    """All states that a machine meets, and the ways between them."""
    states = []
    numbers = {}

    def numbered(state):
        """The number of a state."""
        if state not in numbers:
            numbers[state] = len(states)
            states.append(state)
        return numbers[state]

    starts = [(numbered(state), word) for state, word in machine.firsts()]
    moves = []
    while len(moves) < len(states):
        state = states[len(moves)]
        moves.append([[(numbered(to), ahead, stays, behind) for to, ahead, stays, behind in machine.moved(state, sign)]
                      for sign in signs])
    ends = [machine.ended(state) for state in states]
    return states, Ways(signs, starts, moves, ends, [machine.refuser(state) for state in states])


def trimmed(ways):
    """The ways without states behind which nothing ends."""
    hopeful = ending_states(ways)
    order = [state for state, hope in enumerate(hopeful) if hope]
    numbers = {state: number for number, state in enumerate(order)}
    starts = [(numbers[state], word) for state, word in ways.starts if hopeful[state]]
    moves = [[[(numbers[to], ahead, stays, behind) for to, ahead, stays, behind in arrows if hopeful[to]]
              for arrows in ways.moves[state]] for state in order]
    return Ways(ways.signs, starts, moves, [ways.ends[state] for state in order],
                [ways.refusers[state] for state in order])


def ending_states(ways):
    """Of each state whether some way from it ends."""
    sources = [[] for _ in ways.moves]
    for state, row in enumerate(ways.moves):
        for arrows in row:
            for arrow in arrows:
                sources[arrow[0]].append(state)
    hopeful = [word is not None for word in ways.ends]
    work = [state for state, hope in enumerate(hopeful) if hope]
    while work:
        for state in sources[work.pop()]:
            if not hopeful[state]:
                hopeful[state] = True
                work.append(state)
    return hopeful


class PlainMachine(Machine):
    """Lets all texts as they are."""

    def firsts(self):
        """Where ways begin."""
        return [(("all",), "")]

    def moved(self, state, _sign):
        """Where a sign leads."""
        return [(state, "", True, "")]

    def ended(self, _state):
        """What is put at the end."""
        return ""


class TableMachine(Machine):
    """Lets the texts of a table as they are; others have no way."""

    def __init__(self, table):
        self._table = table

    def firsts(self):
        """Where ways begin."""
        return [((0,), "")]

    def moved(self, state, sign):
        """Where a sign leads."""
        return [((self._table.moved(state[0], sign),), "", True, "")]

    def ended(self, state):
        """What is put at the end, None if the text is not one of the table."""
        return "" if self._table.is_good(state[0]) else None


class TextMachine(Machine):
    """Lets one text as it is; others have no way."""

    def __init__(self, text):
        self._text = text

    def firsts(self):
        """Where ways begin."""
        return [((0,), "")]

    def moved(self, state, sign):
        """Where a sign leads."""
        place = state[0]
        is_next = place < len(self._text) and self._text[place] == sign
        return [((place + 1,), "", True, "")] if is_next else []

    def ended(self, state):
        """What is put at the end."""
        return "" if state[0] == len(self._text) else None


# Stands for the state of steps that stand still, as one ahead of them refuses.
STILL = -1


class JointMachine(Machine):
    """Ways that go on behind other ones: what the first ones let stay or put is read by the second ones.

    A state is a tuple of the states of both.
    """

    def __init__(self, one, two):
        self._one = one
        self._two = two
        self._fed = {}

    def refuser(self, state):
        """The number of the step that refuses."""
        number = self._one.refusers[state[0]]
        return self._two.refusers[state[1]] if number is None else number

    def firsts(self):
        """Where ways begin."""
        found = []
        for first, word in self._one.starts:
            if self._one.refusers[first] is not None:
                found.append(((first, STILL), ""))
                continue
            for second, put in self._two.starts:
                found.extend([((first, to), put + told) for to, told in self.fed(second, word)])
        return found

    def fed(self, state, word):
        """The states of the second ways behind a word, and what they tell."""
        if word == "":
            return [(state, "")]
        if (state, word) not in self._fed:
            ways = [(state, "")]
            for sign in word:
                at = self._two.places[sign]
                ways = [(to, told + ahead + (sign if stays else "") + behind)
                        for last, told in ways for to, ahead, stays, behind in self._two.moves[last][at]]
            self._fed[(state, word)] = ways
        return self._fed[(state, word)]

    def moved(self, state, sign):
        """Where a sign leads."""
        one, two = state
        at = self._one.places[sign]
        found = []
        for to, ahead, stays, behind in self._one.moves[one][at]:
            if two == STILL:
                found.append(((to, STILL), "", False, ""))
            elif stays and not ahead and not behind:
                found.extend([((to, last), put, stay, told) for last, put, stay, told in self._two.moves[two][at]])
            elif stays:
                found.extend(self._through(to, two, (ahead, at, behind)))
            else:
                found.extend([((to, last), told, False, "") for last, told in self.fed(two, ahead + behind)])
        return found

    def _through(self, to, two, read):
        """The moves of the second ways along a sign that stays, and what is put ahead of it and behind it."""
        ahead, at, behind = read
        found = []
        for middle, told in self.fed(two, ahead):
            for after, put, stays, more in self._two.moves[middle][at]:
                found.extend([((to, last), told + put, stays, more + rest) for last, rest in self.fed(after, behind)])
        return found

    def ended(self, state):
        """What is put at the end."""
        word = self._one.ends[state[0]]
        if word is None or state[1] == STILL:
            return word
        for last, told in self.fed(state[1], word):
            if self._two.ends[last] is not None:
                return told + self._two.ends[last]
        return None


def chained(signs, links):
    """The ways of several ones, one behind the other; of none those that let all texts as they are."""
    if not links:
        return met_ways(signs, PlainMachine())
    ways = links[0]
    for link in links[1:]:
        ways = met_ways(signs, JointMachine(ways, link))
    return ways
