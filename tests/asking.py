"""Plain ways to know what questions about all texts must tell, and scripts and sets to ask about."""

from random import Random

from tests.support import any_guard, any_script, any_tongue, texts_up_to
from textworkshop import steps
from textworkshop.errors import Refused, TooHeavy, TooMany
from textworkshop.guardsets import guard_set
from textworkshop.guardtexts import read_guard
from textworkshop.linetesttexts import read_linetest
from textworkshop.runs import run_script
from textworkshop.scripts import Script
from textworkshop.scripttexts import read_script
from textworkshop.statetables import StateTable
from textworkshop.textsets import TextSet, one_text

SIGNS = "\n !ab"


def made(*lines, tongue=None):
    """The script with these lines."""
    return read_script("\n".join(lines), tongue=tongue)


def result_of(script, text):
    """What a script makes of a text, None if it refuses it."""
    try:
        return run_script(script, text)
    except Refused:
        return None


def result_of_both(one, other, text):
    """What one script and then another one make of a text, None if one of them refuses."""
    result = result_of(one, text)
    return None if result is None else result_of(other, result)


def is_in(under, text):
    return under is None or text in under


def check_first(test, told, texts, shows, is_first=True):
    """Checks that a text is the first one that shows something; texts are those up to some length of some signs.

    If none of them shows it, the text may be a longer one, or one of other signs.
    """
    plain = next((text for text in texts if shows(text)), None)
    if told is None:
        test.assertIsNone(plain)
        return
    test.assertTrue(shows(told), told)
    if plain is None:
        test.assertTrue(len(told) > len(texts[-1]) or not set(told) <= set(texts[-1] + "".join(texts[:100])))
        return
    if is_first:
        test.assertLessEqual((len(told), told), (len(plain), plain))
    test.assertLessEqual(len(told), len(plain))
    if set(told) <= set("".join(texts)):
        test.assertEqual(told if is_first else len(told), plain if is_first else len(plain))


def set_of_states(many):
    """A set the least table of which has so many states."""
    texts = one_text("a" * (many - 2))
    assert texts.table.states == many
    return texts


def dense_set(many, named, seed):
    """A set of which each sign leads anywhere."""
    source = Random(seed)
    rows = [[source.randrange(many) for _ in range(len(named) + 1)] for _ in range(many)]
    return TextSet(StateTable(named, rows, [state for state in range(many) if source.random() < 0.5]))


def any_set(source, signs):
    """A set of texts, or None."""
    while source.random() < 0.4:
        try:
            return guard_set(any_guard(source, signs, False, 1))
        except TooHeavy:
            pass
    return None


def any_question(source):
    """Two scripts, a set or None, and the texts over which the answer is tried."""
    tongue = any_tongue(source, "'#", source.choice([1, 1, 2])) if source.random() < 0.3 else None
    signs = "a'#\n" if tongue and source.random() < 0.7 else "ab\n"
    most = source.choice([1, 1, 2, 2, 3])
    other = source.choice([tongue, any_tongue(source, "'#", 1)]) if tongue else None
    scripts = any_script(source, signs, most, tongue), any_script(source, signs, most, other)
    used = "".join(sorted(set("\n !" + signs)))
    return *scripts, any_set(source, signs), list(texts_up_to(used, 4 if len(used) < 6 else 3))


LINE_TESTS = ("all", "number 1", "last", "not last", 'has "a"', "not number 1", 'is ""')
GUARDS = ('has "a"', 'not has "b"', "at most 1 signs", 'ends "a"')
SETS = ('not some line is ""', 'has "a"', 'at most 0 of "b"', 'each line has "a"')


def light_step(source):
    """A step with a small weight."""
    sign, word = source.choice("ab"), source.choice(["a", "b", "\n", "ab", "ba", "aa", "b\n"])
    patch = source.choice(["", "a", "b", "ab", "c", "ba", "\n", "x"])
    test = read_linetest(source.choice(LINE_TESTS))
    sure = read_linetest(source.choice(LINE_TESTS[:4]))
    makers = [
        lambda: steps.replace_step(word, patch), lambda: steps.replace_step(word, patch),
        lambda: steps.replace_step(word, patch), lambda: steps.first_step(word, patch),
        lambda: steps.once_step(sign, patch),
        lambda: steps.put_step(source.choice(["ahead", "behind"]), source.choice("axb"), test),
        lambda: steps.put_step(source.choice(["above", "below"]), source.choice(["", "x"]), test),
        lambda: steps.drop_step(sure), lambda: steps.keep_step(sure), lambda: steps.strip_step(sign, test),
        lambda: steps.want_step(read_guard(source.choice(GUARDS)))]
    return source.choice(makers)()


def light_script(source, most):
    """A script of one step up to so many ones, each with a small weight."""
    while True:
        try:
            return Script([light_step(source) for _ in range(source.randint(1, most))])
        except TooMany:
            pass


def light_set(source):
    """A set with few states, or None."""
    return guard_set(read_guard(source.choice(SETS))) if source.random() < 0.4 else None
