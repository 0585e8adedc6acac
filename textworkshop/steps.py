"""Steps, which change texts, leave them, or refuse them."""

from textworkshop.errors import BadWord
from textworkshop.guards import Guard
from textworkshop.kindwords import is_kind
from textworkshop.linetests import LineTest, is_line_word
from textworkshop.signs import is_patch, is_word


class Step:
    """A step; callers make them by the functions below."""

    def __init__(self, word, old=None, new=None, kind=None, test=None, guard=None):
        self.word = word
        self.old = old
        self.new = new
        self.kind = kind
        self.test = test
        self.guard = guard
        self.asks_kinds = kind is not None or guard is not None and guard.asks_kinds

    def __eq__(self, other):
        return (isinstance(other, Step) and self.word == other.word and self.old == other.old
                and self.new == other.new and self.kind == other.kind and self.test == other.test
                and self.guard == other.guard)


def replace_step(old, new, kind=None, test=None):
    """replace OLD by NEW, perhaps in KIND, or on lines TEST."""
    check_exchange(old, new)
    if kind is not None and not is_kind(kind):
        raise BadWord("kind")
    if test is not None and (kind is not None or not isinstance(test, LineTest)):
        raise BadWord("test")
    if test is not None and "\n" in old:
        raise BadWord("old")
    if test is not None and "\n" in new:
        raise BadWord("new")
    return Step("replace", old=old, new=new, kind=kind, test=test)


def first_step(old, new):
    """first OLD by NEW."""
    check_exchange(old, new)
    return Step("first", old=old, new=new)


def once_step(old, new):
    """once OLD by NEW."""
    check_exchange(old, new)
    return Step("once", old=old, new=new)


def drop_step(test):
    """drop lines TEST."""
    check_test(test)
    return Step("drop", test=test)


def keep_step(test):
    """keep lines TEST."""
    check_test(test)
    return Step("keep", test=test)


def put_step(where, new, test):
    """ahead, behind, above or below NEW on lines TEST."""
    if not isinstance(where, str) or where not in ("ahead", "behind", "above", "below"):
        raise BadWord("where")
    if not is_line_word(new) or new == "" and where in ("ahead", "behind"):
        raise BadWord("new")
    check_test(test)
    return Step(where, new=new, test=test)


def strip_step(old, test):
    """strip OLD on lines TEST."""
    if not is_line_word(old) or old == "":
        raise BadWord("old")
    check_test(test)
    return Step("strip", old=old, test=test)


def want_step(guard):
    """want GUARD."""
    if not isinstance(guard, Guard):
        raise BadWord("guard")
    return Step("want", guard=guard)


def check_exchange(old, new):
    """Raises BadWord unless a patch can be put in the place of a word."""
    if not is_word(old):
        raise BadWord("old")
    if not is_patch(new):
        raise BadWord("new")


def check_test(test):
    """Raises BadWord unless it is a line test."""
    if not isinstance(test, LineTest):
        raise BadWord("test")
