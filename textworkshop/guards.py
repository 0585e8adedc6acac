"""Guards: what texts keep or break."""

from textworkshop.errors import BadNumber, BadWord, NoTongue, TooMany
from textworkshop.kindwords import is_kind
from textworkshop.leaftruths import leaf_text, leaf_truth
from textworkshop.linetests import LineTest, is_within
from textworkshop.signs import is_patch, is_sign, is_text, is_word
from textworkshop.tongues import Tongue

PLACES_BOUNDS = (0, 9)
SIGNS_BOUNDS = (0, 99)
LINES_BOUNDS = (0, 9)
DEPTH_BOUNDS = (1, 9)
MOST_PARTS = 6
MOST_LEAVES = 12
MOST_LEVELS = 6


class Guard:
    """A guard; callers make them by the functions below.

    form is the word that tells what is asked, fields are what it is asked
    with; parts are the guards that are joined, none for a leaf.
    """

    def __init__(self, form, fields, parts):
        self.form = form
        self.fields = fields
        self.parts = parts
        self.leaves = tuple([leaf for part in parts for leaf in part.leaves]) if parts else (self,)
        self.levels = 1 + max([part.levels for part in parts]) if parts else 0
        self.asks_kinds = any([part.asks_kinds for part in parts]) if parts else asks_kinds_alone(form, fields)
        self.written = joined_text(form, parts) if parts else leaf_text(form, fields)

    def __eq__(self, other):
        return isinstance(other, Guard) and self.written == other.written

    def __invert__(self):
        return not_guard(self)

    def __and__(self, other):
        return and_guard((self, other))

    def __or__(self, other):
        return or_guard((self, other))

    def holds_of(self, text, tongue=None):
        """Whether a text keeps the guard."""
        return settled(self, text, kinds_for(self, text, tongue), 0)[0]

    def reasons(self, text, tongue=None):
        """Leaves that are enough to know this: tuples of the number of a leaf and its truth."""
        return settled(self, text, kinds_for(self, text, tongue), 0)[1]


def asks_kinds_alone(form, fields):
    """Whether a leaf asks for kinds."""
    return form in ("closed", "kind has", "kind each") or form == "paired" and fields[3] is not None


def joined_text(form, parts):
    """How a joined guard is written."""
    bracketed = ("or",) if form == "or" else ("and", "or")
    told = [f"({part.written})" if part.form in bracketed else part.written for part in parts]
    return f"not {told[0]}" if form == "not" else f" {form} ".join(told)


def kinds_for(guard, text, tongue):
    """The kinds of a text with a newline behind it if a guard asks for kinds; raises the errors of holds_of."""
    if not is_text(text):
        raise BadWord("text")
    if tongue is not None and not isinstance(tongue, Tongue):
        raise BadWord("tongue")
    check_tongue(guard, tongue)
    return tongue.kinds(text + "\n") if guard.asks_kinds else ""


def check_tongue(guard, tongue):
    """Raises NoTongue with the first leaf that asks for kinds if there is no tongue."""
    if tongue is None and guard.asks_kinds:
        raise NoTongue([leaf.asks_kinds for leaf in guard.leaves].index(True))


def settled(guard, text, kinds, number):
    """Whether a text keeps a guard, and its reasons; number is that of its first leaf."""
    if not guard.parts:
        truth = leaf_truth(guard.form, guard.fields, text, kinds)
        return truth, ((number, truth),)
    told = []
    for part in guard.parts:
        told.append(settled(part, text, kinds, number))
        number += len(part.leaves)
    if guard.form == "not":
        return not told[0][0], told[0][1]
    # One part that is otherwise settles the whole: a broken one of and, a kept one of or.
    usual = guard.form == "and"
    for truth, reasons in told:
        if truth != usual:
            return truth, reasons
    return usual, tuple([reason for _, reasons in told for reason in reasons])


def leaf_of(form, *fields):
    """The leaf with this form and these fields."""
    return Guard(form, fields, ())


def text_guard(how, word):
    """begins W, ends W, has W or is W."""
    if not isinstance(how, str) or how not in ("begins", "ends", "has", "is"):
        raise BadWord("how")
    if not (is_patch(word) if how == "is" else is_word(word)):
        raise BadWord("word")
    return leaf_of(how, word)


def places_guard(word, most):
    """at most K of W."""
    check_word("word", word)
    check_most(most, PLACES_BOUNDS)
    return leaf_of("places", word, most)


def signs_guard(most):
    """at most K signs."""
    check_most(most, SIGNS_BOUNDS)
    return leaf_of("signs", most)


def lines_guard(test, most):
    """at most K lines TEST."""
    check_test("test", test)
    check_most(most, LINES_BOUNDS)
    return leaf_of("lines", test, most)


def each_line_guard(test):
    """each line TEST."""
    check_test("test", test)
    return leaf_of("each line", test)


def some_line_guard(test):
    """some line TEST."""
    check_test("test", test)
    return leaf_of("some line", test)


def order_guard(first, second):
    """lines FIRST ahead of lines SECOND."""
    check_test("first", first)
    check_test("second", second)
    return leaf_of("order", first, second)


def paired_guard(opening, closing, depth, kind=None):
    """paired A B within K, perhaps in KIND."""
    if not is_sign(opening) or opening == "\n":
        raise BadWord("opening")
    if not is_sign(closing) or closing in ("\n", opening):
        raise BadWord("closing")
    if not is_within(depth, DEPTH_BOUNDS):
        raise BadNumber("depth", depth)
    if kind is not None and not is_kind(kind):
        raise BadWord("kind")
    return leaf_of("paired", opening, closing, depth, kind)


def closed_guard():
    """closed."""
    return leaf_of("closed")


def kind_guard(how, word, kind):
    """has W in KIND, or each W in KIND."""
    if not isinstance(how, str) or how not in ("has", "each"):
        raise BadWord("how")
    check_word("word", word)
    if not is_kind(kind):
        raise BadWord("kind")
    return leaf_of(f"kind {how}", word, kind)


def not_guard(part):
    """not PART."""
    if not isinstance(part, Guard):
        raise BadWord("part")
    return checked(Guard("not", (), (part,)))


def and_guard(parts):
    """The parts with and between them."""
    return joined("and", parts)


def or_guard(parts):
    """The parts with or between them."""
    return joined("or", parts)


def joined(form, parts):
    """The parts joined by and, or by or."""
    if not isinstance(parts, (list, tuple)):
        raise BadWord("parts")
    if len(parts) < 2:
        raise BadNumber("parts", len(parts))
    if len(parts) > MOST_PARTS:
        raise TooMany("parts", len(parts), MOST_PARTS)
    if not all([isinstance(part, Guard) for part in parts]):
        raise BadWord("parts")
    return checked(Guard(form, (), tuple(parts)))


def checked(guard):
    """A guard that has not too many leaves or levels; raises TooMany."""
    if len(guard.leaves) > MOST_LEAVES:
        raise TooMany("leaves", len(guard.leaves), MOST_LEAVES)
    if guard.levels > MOST_LEVELS:
        raise TooMany("levels", guard.levels, MOST_LEVELS)
    return guard


def check_word(what, word):
    """Raises BadWord unless it is a word."""
    if not is_word(word):
        raise BadWord(what)


def check_test(what, test):
    """Raises BadWord unless it is a line test."""
    if not isinstance(test, LineTest):
        raise BadWord(what)


def check_most(most, bounds):
    """Raises BadNumber unless it is an integer within bounds."""
    if not is_within(most, bounds):
        raise BadNumber("most", most)
