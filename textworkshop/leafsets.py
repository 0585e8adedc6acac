"""The sets of the texts that keep the leaves of guards."""

from textworkshop.kindwords import letter_of
from textworkshop.linemachines import LineMachine
from textworkshop.readings import ReadingMachine
from textworkshop.signs import all_signs
from textworkshop.statetables import StateTable, table_of
from textworkshop.textsets import TextSet, beginning_with, ending_with, having_word, one_text
from textworkshop.tonguesets import closed_texts, told_signs
from textworkshop.wordtables import meeting_rows

# The state of a machine from which on a leaf is broken, or kept, for good.
SETTLED = "settled"


def leaf_set(form, fields, tongue):
    """The set of the texts that keep a leaf."""
    match form:
        case "begins":
            return beginning_with(fields[0])
        case "ends":
            return ending_with(fields[0])
        case "has":
            return having_word(fields[0])
        case "is":
            return one_text(fields[0])
        case "places":
            return few_places(fields[0], fields[1])
        case "signs":
            rows = [[min(many + 1, fields[0] + 1)] for many in range(fields[0] + 2)]
            return TextSet(StateTable("", rows, list(range(fields[0] + 1))))
        case "closed":
            return closed_texts(tongue)
        case "paired":
            return paired_texts(fields) if fields[3] is None else paired_in_kind(fields, tongue)
        case "kind has":
            return having_in_kind(fields[0], fields[1], tongue)
        case "kind each":
            return always_in_kind(fields[0], fields[1], tongue)
        case _:
            return lines_set(form, fields)


def few_places(word, most):
    """The texts in which a word stands at no more than so many places."""
    named, rows = meeting_rows(word)

    def step(state, sign):
        """How many places there were, and how much of the word's beginning stands at the end."""
        if state == SETTLED:
            return SETTLED
        many, matched = state[0], rows[state[1]][entry_of(named, sign)]
        many += 1 if matched == len(word) else 0
        return SETTLED if many > most else (many, matched)

    return TextSet(table_of((0, 0), step, is_not_settled, named))


def entry_of(named, sign):
    """The entry of a sign in a row, None standing for one that is not named."""
    return -1 if sign is None else named.find(sign)


def is_not_settled(state):
    """Whether a state is good in a machine that settles on no."""
    return state != SETTLED


def lines_set(form, fields):
    """The texts that keep a leaf that asks for lines."""
    match form:
        case "lines":
            return few_lines(fields[0], fields[1])
        case "each line":
            return few_lines(fields[0], 0, False)
        case "some line":
            return ~few_lines(fields[0], 0)
        case _:
            return lines_in_order(LineMachine(fields[0]), LineMachine(fields[1]))


def few_lines(test, most, counted=True):
    """The texts with no more than so many lines of which a test has the counted truth."""
    machine = LineMachine(test)

    def step(state, sign):
        """How many lines there were, and the state of the test."""
        if state == SETTLED:
            return SETTLED
        many, known = state
        if sign != "\n":
            return many, machine.moved(known, sign)
        many += 1 if machine.truth(known, False) == counted else 0
        return SETTLED if many > most else (many, machine.behind(known))

    def is_good(state):
        """Whether there are not too many lines if the text ends here."""
        return state != SETTLED and (state[0] < most or machine.truth(state[1], True) != counted)

    return TextSet(table_of((0, 0), step, is_good, "\n" + machine.named))


def lines_in_order(one, two):
    """The texts in which no line of the first test comes behind one of the second test."""
    named = "".join([sign for sign in all_signs() if sign in one.named or sign in two.named])

    def step(state, sign):
        """Whether a line of the second test was met, and the states of both tests."""
        if state == SETTLED:
            return SETTLED
        met, first, second = state
        if sign != "\n":
            return met, one.moved(first, sign), two.moved(second, sign)
        if met and one.truth(first, False):
            return SETTLED
        return met or two.truth(second, False), one.behind(first), two.behind(second)

    def is_good(state):
        """Whether the last line is in order, too."""
        return state != SETTLED and not (state[0] and one.truth(state[1], True))

    return TextSet(table_of((False, 0, 0), step, is_good, "\n" + named))


def paired_texts(fields):
    """The texts whose signs of a pair go up and down between 0 and a depth."""
    opening, closing, most, _ = fields
    lost = most + 1
    rows = [[depth + 1, depth - 1 if depth else lost, depth] for depth in range(most + 1)]
    return TextSet(StateTable(opening + closing, [*rows, [lost] * 3], [0]))


def kind_set(tongue, signs, first, counted, is_good):
    """The texts whose signs with their kinds lead a machine to a good state.

    counted(state, sign, kind) tells the state behind one more settled sign.
    """
    machine = ReadingMachine(tongue)
    told = told_signs([tongue])
    named = "".join([sign for sign in all_signs() if sign in signs or sign in told])

    def all_counted(state, pairs):
        """The state behind signs that were settled."""
        for sign, kind in pairs:
            if state == SETTLED:
                break
            state = counted(state, sign, kind)
        return state

    def step(place, sign):
        """The stand of the reading, and the state behind what is settled."""
        if place == SETTLED:
            return SETTLED
        stand, pairs = machine.moved(place[0], sign)
        state = all_counted(place[1], pairs)
        return SETTLED if state == SETTLED else (stand, state)

    def is_good_end(place):
        """Whether the state is good if the text ends here."""
        return is_good(place if place == SETTLED else all_counted(place[1], machine.ended(place[0])))

    return TextSet(table_of((machine.beginning, first), step, is_good_end, named))


def having_in_kind(word, kind, tongue):
    """The texts with a place of a word all signs of which have a kind."""
    named, rows = meeting_rows(word)
    letter = letter_of(kind)

    def counted(state, sign, told):
        """How much of the word's beginning stands at the end, in this kind."""
        state = rows[state][entry_of(named, sign)] if told == letter else 0
        return SETTLED if state == len(word) else state

    return kind_set(tongue, word, 0, counted, lambda state: state == SETTLED)


def always_in_kind(word, kind, tongue):
    """The texts in which all signs of all places of a word have a kind."""
    named, rows = meeting_rows(word)
    letter = letter_of(kind)

    def counted(state, sign, told):
        """How much of the word's beginning stands at the end, and how many of its last signs have this kind."""
        matched = rows[state[0]][entry_of(named, sign)]
        good = min(matched, state[1] + 1) if told == letter else 0
        return SETTLED if matched == len(word) and good < matched else (matched, good)

    return kind_set(tongue, word, (0, 0), counted, is_not_settled)


def paired_in_kind(fields, tongue):
    """The texts whose signs of a pair, of this kind alone, go up and down between 0 and a depth."""
    opening, closing, most, kind = fields
    letter = letter_of(kind)

    def counted(depth, sign, told):
        """The depth behind one more sign."""
        if told != letter or sign not in (opening, closing):
            return depth
        depth += 1 if sign == opening else -1
        return depth if 0 <= depth <= most else SETTLED

    return kind_set(tongue, opening + closing, 0, counted, lambda depth: depth == 0)
