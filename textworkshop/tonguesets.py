"""Sets of texts by what tongues read in them."""

from textworkshop.errors import TooHeavy
from textworkshop.readings import ReadingMachine
from textworkshop.signs import all_signs
from textworkshop.statetables import StateTable, explored, table_of
from textworkshop.textsets import TextSet
from textworkshop.tongues import mark_signs

WEIGHT_LIMIT = 2500
APART = "apart"


def closed_texts(tongue):
    """The set of the texts that are closed."""
    machine = ReadingMachine(tongue)

    def step(stand, sign):
        """The stand behind one more sign."""
        return machine.moved(stand, sign)[0]

    def is_good(stand):
        """Whether a newline behind this stand is code."""
        return machine.moved(stand, "\n")[1][-1][1] == "c"

    return TextSet(table_of(machine.beginning, step, is_good, told_signs([tongue])))


def texts_read_as(tongue, kinds):
    """The set of the texts whose kinds are in a set."""
    check_weight(tongue.weight * kinds.table.states)
    machine = ReadingMachine(tongue)
    table = kinds.table

    def counted(state, pairs):
        """The state behind the kinds that were settled."""
        for _, kind in pairs:
            state = table.moved(state, kind)
        return state

    def step(place, sign):
        """The stand and the state behind one more sign."""
        stand, pairs = machine.moved(place[0], sign)
        return stand, counted(place[1], pairs)

    def is_good(place):
        """Whether the kinds are in the set if the text ends here."""
        return table.is_good(counted(place[1], machine.ended(place[0])))

    return TextSet(table_of((machine.beginning, 0), step, is_good, told_signs([tongue])))


def texts_read_apart(one, two):
    """The set of the texts whose kinds are not the same in both tongues."""
    check_weight(one.weight * two.weight)
    named = told_signs([one, two])
    rows, good = apart_rows(one, two, named)
    return TextSet(StateTable(named, rows, good))


def idle_rules(tongue):
    """The indexes of the rules without each of which the tongue is alike, ascending."""
    check_weight(tongue.weight * tongue.weight)
    return [index for index in range(len(tongue)) if are_alike(tongue, tongue.without(index))]


def lean_tongue(tongue):
    """The tongue without the rules that can be left out, one after the other."""
    check_weight(tongue.weight * tongue.weight)
    lean, index = tongue, 0
    while index < len(lean):
        less = lean.without(index)
        if are_alike(lean, less):
            lean = less
        else:
            index += 1
    return lean


def check_weight(weight):
    """Raises TooHeavy for a weight above the limit."""
    if weight > WEIGHT_LIMIT:
        raise TooHeavy(weight)


def told_signs(tongues):
    """The newline and the signs of the marks and escapes of tongues, ascending."""
    told = "\n" + "".join([mark_signs(tongue) for tongue in tongues])
    return "".join([sign for sign in all_signs() if sign in told])


def are_alike(one, two):
    """Whether two tongues read no text apart."""
    return not apart_rows(one, two, told_signs([one, two]))[1]


def apart_rows(one, two, named):
    """The rows and good states of a table of the texts that two tongues read apart.

    A state is a tuple of the numbers of both stands and of the kinds that each
    one has settled more than the other one; of these one is empty.
    """
    signs = [*named, None]
    moves, ends = stand_moves(ReadingMachine(one), signs)
    others, other_ends = stand_moves(ReadingMachine(two), signs)

    def step(state, place):
        """The state behind the sign with this place among the signs."""
        if state == APART:
            return APART
        here, there, more, less = state
        here, settled = moves[here][place]
        there, other = others[there][place]
        more, less = more + settled, less + other
        both = min(len(more), len(less))
        if more[:both] != less[:both]:
            return APART
        return here, there, more[both:], less[both:]

    states, rows = explored((0, 0, "", ""), step, list(range(len(signs))), None)
    good = [number for number, state in enumerate(states)
            if state == APART or state[2] + ends[state[0]] != state[3] + other_ends[state[1]]]
    return rows, good


def stand_moves(machine, signs):
    """The stands of a machine, numbered: for each sign where it leads and what it settles, and what the end settles."""
    settled = {}

    def step(stand, place):
        """The stand behind a sign; what is settled is noted."""
        behind, pairs = machine.moved(stand, signs[place])
        settled[(stand, place)] = "".join([kind for _, kind in pairs])
        return behind

    places = list(range(len(signs)))
    stands, rows = explored(machine.beginning, step, places, None)
    moves = [[(row[place], settled[(stand, place)]) for place in places] for stand, row in zip(stands, rows)]
    return moves, ["".join([kind for _, kind in machine.ended(stand)]) for stand in stands]
