"""Line tests as machines, which go over a text sign by sign."""

from textworkshop.signs import all_signs
from textworkshop.statetables import explored
from textworkshop.wordtables import beginning_table, ending_table, having_table


class LineMachine:
    """What a line test knows of the lines so far; its states are numbers, and it begins in 0.

    named are the signs that it tells apart within lines, rows where they and
    all others lead from each state. nexts are the states behind a newline;
    truths tell of each state whether the test is true of the line that ends
    there, with a line behind it, and without one.
    """

    def __init__(self, test):
        named, rows, nexts, truths = range_form(test) if test.word == "from" else plain_form_of(test)
        self.named = named
        self.rows = rows
        self.nexts = nexts
        self.truths_at = [(going != test.negated, ending != test.negated) for going, ending in truths]

    def moved(self, state, sign):
        """The state behind one more sign of the line, None for one that is not named."""
        return self.rows[state][-1 if sign is None else self.named.find(sign)]

    def behind(self, state):
        """The state behind a newline."""
        return self.nexts[state]

    def truth(self, state, is_last):
        """Whether the test is true of the line that ends here."""
        return self.truths_at[state][1 if is_last else 0]


def plain_form_of(test):
    """The named signs, rows, nexts and truths of a plain test, without its not."""
    argument = test.argument
    match test.word:
        case "all":
            return "", [[0]], [0], [(True, True)]
        case "last":
            return "", [[0]], [0], [(False, True)]
        case "number":
            states = list(range(argument + 1))
            nexts = [min(state + 1, argument) for state in states]
            return "", [[state] for state in states], nexts, [(state + 1 == argument,) * 2 for state in states]
        case "short":
            states = list(range(argument + 2))
            rows = [[min(state + 1, argument + 1)] for state in states]
            return "", rows, [0 for _ in states], [(state <= argument,) * 2 for state in states]
        case _:
            table = word_table(test.word, argument)
            truths = [(table.is_good(state),) * 2 for state in range(table.states)]
            return table.named, table.rows, [0 for _ in truths], truths


def word_table(word, argument):
    """The table of the lines that begin with a text, end with it, have it, or are it."""
    match word:
        case "ends":
            return ending_table(argument)
        case "has":
            return having_table(argument)
        case _:
            return beginning_table(argument, word == "is")


def range_form(test):
    """The named signs, rows, nexts and truths of a range, without its not.

    Its states are tuples of whether a line ahead has begun a range that goes
    on, and the states of both tests.
    """
    one, two = LineMachine(test.first), LineMachine(test.second)
    named = "".join([sign for sign in all_signs() if sign in one.named or sign in two.named])

    def step(state, sign):
        """The state behind one more sign."""
        inside, first, second = state
        if sign != "\n":
            return inside, one.moved(first, sign), two.moved(second, sign)
        goes_on = not two.truth(second, False) if inside else one.truth(first, False)
        return goes_on, one.behind(first), two.behind(second)

    states, rows = explored((False, 0, 0), step, [*named, None, "\n"], None)
    truths = [tuple([inside or one.truth(first, is_last) for is_last in (False, True)]) for inside, first, _ in states]
    return named, [row[:-1] for row in rows], [row[-1] for row in rows], truths
