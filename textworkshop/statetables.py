"""Tables of states, which read texts sign by sign."""

from textworkshop.errors import TooMany
from textworkshop.leasttables import asked_width, least_form

STATE_LIMIT = 20000


class StateTable:
    """The least table with the texts of a told one."""

    def __init__(self, named, rows, good):
        least_named, least_rows, least_good = least_form(named, rows, good)
        self.named = least_named
        self.rows = least_rows
        self.good = least_good
        self.states = len(least_rows)
        wanted = set(least_good)
        self._truths = tuple([state in wanted for state in range(len(least_rows))])

    def __eq__(self, other):
        return (isinstance(other, StateTable) and self.named == other.named
                and self.rows == other.rows and self.good == other.good)

    def moved(self, state, sign):
        """The state to which a sign leads."""
        # find tells -1 for the signs of the rest, the last entry of a row.
        return self.rows[state][self.named.find(sign)]

    def reached(self, text):
        """The state behind a text."""
        state = 0
        for sign in text:
            state = self.rows[state][self.named.find(sign)]
        return state

    def is_good(self, state):
        """Whether a state is good."""
        return self._truths[state]


def table_of(first, step, is_good, named):
    """The table of a machine whose states and steps the caller tells."""
    states, rows = explored(first, step, asked_signs(named), STATE_LIMIT)
    good = [number for number, state in enumerate(states) if is_good(state)]
    return StateTable(named, full_rows(rows, named), good)


def table_of_ways(firsts, steps, is_good, named):
    """The table of a machine in which several ways go along a text."""
    states = []
    numbers = {}
    ways = {}

    def numbered(found):
        """The numbers of states, each one once, ascending."""
        for state in found:
            if state not in numbers:
                numbers[state] = len(states)
                states.append(state)
        return tuple(sorted({numbers[one] for one in found}))

    def led(number, sign):
        """Where a sign leads from one state; the machine is asked once."""
        if (number, sign) not in ways:
            ways[(number, sign)] = numbered(steps(states[number], sign))
        return ways[(number, sign)]

    def step(lot, sign):
        """Where a sign leads from a set of states."""
        return tuple(sorted({to for number in lot for to in led(number, sign)}))

    lots, rows = explored(numbered(firsts), step, asked_signs(named), STATE_LIMIT)
    truths = [bool(is_good(state)) for state in states]
    good = [place for place, lot in enumerate(lots) if any([truths[number] for number in lot])]
    return StateTable(named, full_rows(rows, named), good)


def explored(first, step, signs, limit):
    """The states that a machine meets, by breadth, and the row of each; no limit if it is None."""
    states = [first]
    numbers = {first: 0}
    rows = []
    while len(rows) < len(states):
        state = states[len(rows)]
        row = []
        for sign in signs:
            to = step(state, sign)
            if to not in numbers:
                numbers[to] = len(states)
                states.append(to)
                check_many(len(states), limit)
            row.append(numbers[to])
        rows.append(row)
    return states, rows


def check_many(many, limit):
    """Raises TooMany if there are more states than may be."""
    if limit is not None and many > limit:
        raise TooMany("states", limit + 1, limit)


def asked_signs(named):
    """The signs a machine is asked for: the named ones, and None for the others, if there are any."""
    signs = list(named)
    if asked_width(named) > len(named):
        signs.append(None)
    return signs


def full_rows(rows, named):
    """The rows with an entry for a rest, also if there are no signs left for one."""
    if asked_width(named) > len(named):
        return rows
    return [[*row, 0] for row in rows]
