"""Sets of texts that a table of states can tell."""

from textworkshop.counting import numbered_text, shortest_text, texts_in_all, texts_of_length
from textworkshop.pairtables import both_named, read_together
from textworkshop.signs import all_signs, is_text
from textworkshop.statetables import StateTable, table_of_ways
from textworkshop.wordtables import beginning_table, ending_table, having_table


class TextSet:
    """The set of the texts of a StateTable."""

    def __init__(self, table):
        self.table = table

    def __contains__(self, text):
        return is_text(text) and self.table.is_good(self.table.reached(text))

    def __eq__(self, other):
        return isinstance(other, TextSet) and self.table == other.table

    def __and__(self, other):
        named, rows, truths = read_together(self.table, other.table)
        good = [state for state, (one, two) in enumerate(truths) if one and two]
        return TextSet(StateTable(named, rows, good))

    def __or__(self, other):
        named, rows, truths = read_together(self.table, other.table)
        good = [state for state, (one, two) in enumerate(truths) if one or two]
        return TextSet(StateTable(named, rows, good))

    def __sub__(self, other):
        named, rows, truths = read_together(self.table, other.table)
        good = [state for state, (one, two) in enumerate(truths) if one and not two]
        return TextSet(StateTable(named, rows, good))

    def __invert__(self):
        table = self.table
        good = [state for state in range(table.states) if not table.is_good(state)]
        return TextSet(StateTable(table.named, table.rows, good))

    def is_empty(self):
        """Whether no text is in the set."""
        return not self.table.good

    def within(self, other):
        """Whether each text of the set is in the other one."""
        truths = read_together(self.table, other.table)[2]
        return not any([one and not two for one, two in truths])

    def least_text(self):
        """The first one of the shortest texts, None if there is none."""
        return shortest_text(self.table)

    def many_of(self, length):
        """How many texts of this length are in the set."""
        return texts_of_length(self.table, length)

    def text_at(self, length, number):
        """Of the texts of this length the one with this number, None if there are not so many."""
        if not 0 <= number < self.many_of(length):
            return None
        return numbered_text(self.table, length, number)

    def all_many(self):
        """How many texts are in the set, None if they are endlessly many."""
        return texts_in_all(self.table)

    def behind(self, word):
        """The texts that give one of the set if they are put behind the word."""
        table = self.table
        start = table.reached(word)
        turned = list(range(table.states))
        turned[0], turned[start] = start, 0
        rows = [[turned[to] for to in table.rows[state]] for state in turned]
        return TextSet(StateTable(table.named, rows, [turned[state] for state in table.good]))

    def ahead(self, word):
        """The texts that give one of the set if the word is put behind them."""
        table = self.table
        truths = [table.is_good(state) for state in range(table.states)]
        for sign in reversed(list(word)):
            truths = [truths[table.moved(state, sign)] for state in range(table.states)]
        return TextSet(StateTable(table.named, table.rows, [state for state, truth in enumerate(truths) if truth]))


def all_texts():
    """The set of all texts."""
    return TextSet(StateTable("", [[0]], [0]))


def no_texts():
    """The set without texts."""
    return TextSet(StateTable("", [[0]], []))


def one_text(text):
    """The set of this text alone."""
    return TextSet(beginning_table(text, True))


def beginning_with(word):
    """The texts that begin with a text."""
    return TextSet(beginning_table(word, False))


def ending_with(word):
    """The texts that end with a text."""
    return TextSet(ending_table(word))


def having_word(word):
    """The texts that have a text somewhere."""
    return TextSet(having_table(word))


def joined_texts(s, t):
    """The texts that are one of s and behind it one of t."""
    one, two = s.table, t.table

    def steps(state, sign):
        """Where a sign leads; the states of t are numbered behind those of s."""
        if state >= one.states:
            return (one.states + led(two, state - one.states, sign),)
        return with_second(led(one, state, sign))

    def with_second(state):
        """A state of s, and the first one of t if it is good."""
        return (state, one.states) if one.is_good(state) else (state,)

    def is_good(state):
        """Whether it is a good state of t."""
        return state >= one.states and two.is_good(state - one.states)

    return TextSet(table_of_ways(with_second(0), steps, is_good, both_named(one, two)))


def led(table, state, sign):
    """Where a sign leads, None standing for one that no table names."""
    return table.rows[state][-1] if sign is None else table.moved(state, sign)


def each_line(s):
    """The texts of which every line is in s."""
    table = s.table
    lost = table.states
    named = "".join([sign for sign in all_signs() if sign == "\n" or sign in table.named])
    entries = [table.named.find(sign) for sign in named[1:]] + [-1]
    rows = [[0 if table.is_good(state) else lost] + [row[entry] for entry in entries]
            for state, row in enumerate(table.rows)]
    rows.append([lost for _ in range(len(named) + 1)])
    return TextSet(StateTable(named, rows, table.good))


def some_line(s):
    """The texts of which at least one line is in s."""
    return ~each_line(~s)
