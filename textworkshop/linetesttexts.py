"""Texts of line tests."""

from textworkshop.linetests import BARE_TESTS, NUMBER_TESTS, WORD_TESTS, other_test, plain_test, range_test
from textworkshop.wordreader import WordReader
from textworkshop.words import quoted_text


def read_linetest(line):
    """The test that a line tells; raises BadText, then the errors of making it."""
    words = WordReader(line, 1)
    form = linetest_form(words)
    words.finish()
    return made_linetest(form)


def linetest_text(test):
    """The one text of a test."""
    ahead = "not " if test.negated else ""
    if test.word == "from":
        return f"{ahead}from {linetest_text(test.first)} to {linetest_text(test.second)}"
    if test.word in WORD_TESTS:
        return f"{ahead}{test.word} {quoted_text(test.argument)}"
    if test.word in NUMBER_TESTS:
        return f"{ahead}{test.word} {test.argument}"
    return ahead + test.word


def linetest_form(words):
    """The form of the test that comes next: whether it has not, and its plain tests, as told to plain_test."""
    negated = words.skipped("not")
    if not words.skipped("from"):
        return negated, (plain_form(words),)
    first = plain_form(words)
    words.chosen(("to",))
    return negated, (first, plain_form(words))


def plain_form(words):
    """The form of the plain test that comes next."""
    word = words.chosen((*WORD_TESTS, *NUMBER_TESTS, *BARE_TESTS))
    if word in WORD_TESTS:
        return word, words.quoted()
    if word in NUMBER_TESTS:
        return word, words.whole()
    return word, None


def made_linetest(form):
    """The test of a form, made from the left; raises the errors of making it."""
    negated, parts = form
    tests = [plain_test(word, argument) for word, argument in parts]
    test = range_test(tests[0], tests[1]) if len(tests) == 2 else tests[0]
    return other_test(test) if negated else test
