"""Tests of the lines of a text."""

from textworkshop.errors import BadNumber, BadWord
from textworkshop.signs import is_patch, is_whole

WORD_TESTS = ("begins", "ends", "has", "is")
NUMBER_TESTS = ("short", "number")
BARE_TESTS = ("all", "last")
BOUNDS = {"short": (0, 40), "number": (1, 6)}


class LineTest:
    """A test of lines; callers make them by the functions below."""

    def __init__(self, word, argument, parts, negated):
        self.word = word
        self.argument = argument
        self.first = parts[0]
        self.second = parts[1]
        self.negated = negated

    def __eq__(self, other):
        return (isinstance(other, LineTest) and self.word == other.word and self.argument == other.argument
                and self.first == other.first and self.second == other.second and self.negated == other.negated)

    def truths(self, lines):
        """Of each line whether the test is true of it."""
        if self.word == "from":
            plain = range_truths(self.first.truths(lines), self.second.truths(lines))
        else:
            plain = [plain_truth(self, lines, place) for place in range(len(lines))]
        return tuple([truth != self.negated for truth in plain])


def plain_truth(test, lines, place):
    """Whether a plain test, taken without its not, is true of the line at a place."""
    line, argument = lines[place], test.argument
    match test.word:
        case "begins":
            return line.startswith(argument)
        case "ends":
            return line.endswith(argument)
        case "has":
            return argument in line
        case "is":
            return line == argument
        case "short":
            return len(line) <= argument
        case "number":
            return place + 1 == argument
        case "last":
            return place + 1 == len(lines)
        case _:
            return True


def range_truths(begins, ends):
    """Which lines lie in a range, by the truths of its two tests."""
    truths = []
    inside = False
    for begin, end in zip(begins, ends):
        truths.append(inside or begin)
        inside = not end if inside else begin
    return truths


def plain_test(word, argument=None):
    """A plain test; raises BadWord or BadNumber."""
    if not isinstance(word, str) or word not in (*WORD_TESTS, *NUMBER_TESTS, *BARE_TESTS):
        raise BadWord("test")
    if word in WORD_TESTS and not is_line_word(argument):
        raise BadWord("argument")
    if word in NUMBER_TESTS and not is_within(argument, BOUNDS[word]):
        raise BadNumber(word, argument)
    if word in BARE_TESTS and argument is not None:
        raise BadWord("argument")
    return LineTest(word, argument, (None, None), False)


def range_test(first, second):
    """The test `from first to second`; raises BadWord."""
    if not is_plain(first):
        raise BadWord("first")
    if not is_plain(second):
        raise BadWord("second")
    return LineTest("from", None, (first, second), False)


def other_test(test):
    """The test with not; raises BadWord."""
    if not isinstance(test, LineTest) or test.negated:
        raise BadWord("test")
    return LineTest(test.word, test.argument, (test.first, test.second), True)


def is_plain(value):
    """Whether any value is a plain test."""
    return isinstance(value, LineTest) and value.word != "from" and not value.negated


def is_line_word(value):
    """Whether any value can be the word of a test: up to six signs without newline."""
    return is_patch(value) and "\n" not in value


def is_within(value, bounds):
    """Whether any value is an integer within bounds."""
    return is_whole(value) and bounds[0] <= value <= bounds[1]
