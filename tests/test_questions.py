"""How questions are decided, and how heavy they may be: [46], [47]."""

import time
import unittest
from random import Random

from tests.asking import dense_set, made, set_of_states
from tests.support import any_linetest, any_script, any_text, any_tongue, told_error
from textworkshop import steps
from textworkshop.alikes import unlike_text, unrestored_text
from textworkshop.carried import broken_text, needed_many, needed_set, origin_text, refused_text
from textworkshop.clashes import clash_texts
from textworkshop.eitherorder import merge_conflict, merge_parting, order_parting
from textworkshop.errors import TooHeavy, TooMany
from textworkshop.feeds import Feed
from textworkshop.guards import and_guard, signs_guard
from textworkshop.idles import idle_steps, idle_text, least_steps, movable_places, order_text, shown_text
from textworkshop.questions import parts_of, question_signs, script_ways
from textworkshop.runs import refused_step, run_script
from textworkshop.scripts import Script
from textworkshop.textsets import all_texts
from textworkshop.weights import script_weight

TWO = made('first "a" by "b"')
TWO_AGAIN = made('first "c" by "d"')
ABOVE = and_guard([signs_guard(39), signs_guard(59)])
HEAVY = Script([steps.want_step(signs_guard(1)), steps.want_step(ABOVE)])
HEAVIER = Script([steps.want_step(and_guard([signs_guard(98), signs_guard(98)]))])


def told_word(source):
    return "".join(source.choice("aab") for _ in range(source.randint(1, 6)))


def long_step(source, tongue):
    """A step whose word may overlap with itself."""
    word, patch, test = told_word(source), told_word(source)[:source.randint(0, 2)], any_linetest(source, "ab\n")
    makers = [
        lambda: steps.replace_step(word, patch), lambda: steps.first_step(word, patch),
        lambda: steps.once_step(word, patch), lambda: steps.replace_step(word, patch, test=test),
        lambda: steps.strip_step(word, test)]
    if tongue is not None:
        marked = source.choice(["a", "'", "#'", "''", "a'", "'#'#", "\n"])
        kind = source.choice(["code", "quotes", "remarks"])
        makers += [lambda: steps.replace_step(marked, patch, kind)] * 3
    return source.choice(makers)()


def any_asked_script(source):
    """A script that is not too heavy."""
    while True:
        tongue = any_tongue(source, "'#", source.choice([1, 1, 2])) if source.random() < 0.4 else None
        try:
            if source.random() < 0.5:
                script = any_script(source, "ab\n", 3, tongue)
            else:
                script = Script([long_step(source, tongue) for _ in range(source.choice([1, 1, 2]))], tongue)
            if script_weight(script) <= 2500:
                return script
        except (TooMany, TooHeavy):
            pass


class WaysTest(unittest.TestCase):
    def ends(self, ways, text):
        """What all ways along a text that end tell: who refuses, and what is left."""
        live = list(ways.starts)
        for sign in text:
            live = [(to, told + ahead + (sign if stays else "") + behind) for state, told in live
                    for to, ahead, stays, behind in ways.moves[state][ways.places[sign]]]
        return [(ways.refusers[state], told + ways.ends[state]) for state, told in live
                if ways.ends[state] is not None]

    def test_each_text_has_one_way_that_ends(self):
        source = Random(461)
        for _ in range(500):
            script = any_asked_script(source)
            parts = parts_of(script)
            signs = question_signs(parts, [])
            ways = script_ways(parts, signs, None, True)
            for text in [any_text(source, "aab", 12) for _ in range(6)] + [any_text(source, signs, 8) for _ in range(6)]:
                text = "".join(sign if sign in signs else " " for sign in text)
                told = self.ends(ways, text)
                number = refused_step(script, text)
                self.assertEqual(len(told), 1)
                self.assertEqual(told[0][0], number)
                if number is None:
                    self.assertEqual(told[0][1], run_script(script, text))

    def test_two_of_the_signs_that_nothing_names(self):
        parts = parts_of(made('replace "b!" by "c"', 'drop lines has "a"'))
        self.assertEqual(question_signs(parts, []), "\n !\"abc")
        self.assertEqual(question_signs(parts, [set_of_states(3), None]), "\n !\"abc")
        self.assertEqual(question_signs([], []), "\n !")


class BoundTest(unittest.TestCase):
    """Each question with sets of any number of states; each script of weight 2 and each set as often as it counts."""

    def check(self, many, weight, ask):
        ask(set_of_states(many))
        self.assertEqual(told_error(self, TooHeavy, ask, set_of_states(many + 1)), (weight,))

    def test_script_and_set_count_once(self):
        for ask in (
                lambda some: broken_text(TWO, all_texts(), under=some), lambda some: broken_text(TWO, some),
                lambda some: refused_text(TWO, under=some), lambda some: refused_text(TWO, 0, under=some),
                lambda some: needed_many(TWO, some, 3), lambda some: origin_text(TWO, "", under=some),
                lambda some: idle_text(TWO, 0, under=some), lambda some: idle_steps(TWO, under=some),
                lambda some: needed_set(TWO, some), lambda some: unlike_text(TWO, Script([]), under=some),
                lambda some: unrestored_text(Script([]), TWO, under=some),
                lambda some: merge_conflict(Script([]), TWO, under=some)):
            self.check(1250, 2502, ask)

    def test_both_scripts_count(self):
        for ask in (unlike_text, unrestored_text, merge_conflict):
            self.check(625, 2504, lambda some: ask(TWO, TWO_AGAIN, under=some))
            self.check(125, 2520, lambda some: ask(TWO, made('replace "a" by "x"', 'once "b" by ""', "drop lines all"),
                                                   under=some))

    def test_the_script_counts_twice(self):
        pair = Script([*made('replace "x" by "y"').steps, *TWO.steps])
        for ask in (
                lambda some: least_steps(TWO, under=some), lambda some: movable_places(TWO, 0, under=some),
                lambda some: order_text(pair, 0, under=some), lambda some: movable_places(pair, 1, under=some),
                lambda some: idle_text(pair, 0, under=some)):
            self.check(625, 2504, ask)

    def test_both_scripts_count_twice(self):
        other = made('replace "q" by "r"')
        for ask in (order_parting, merge_parting):
            self.check(625, 2504, lambda some: ask(TWO, other, under=some))
            self.check(625, 2504, lambda some: ask(other, TWO, under=some))
            five = made('once "x" by "y"')
            self.check(25, 2600, lambda some: ask(five, TWO, under=some))

    def test_script_and_set_count_twice(self):
        self.check(25, 2704, lambda some: clash_texts(TWO, under=some))
        self.check(50, 2601, lambda some: clash_texts(Script([]), under=some))

    def test_two_sets(self):
        few = set_of_states(5)
        self.check(250, 2510, lambda some: broken_text(TWO, few, under=some))
        self.check(250, 2510, lambda some: broken_text(TWO, some, under=few))
        self.check(50, 2601, lambda some: broken_text(Script([]), some, under=some))

    def test_a_result_counts_by_its_length(self):
        self.assertIsNone(origin_text(TWO, "x" * 600 + "a" * 649))
        self.assertEqual(told_error(self, TooHeavy, origin_text, TWO, "x" * 1250), (2502,))
        self.check(50, 5 * 510, lambda some: origin_text(made('replace "abc" by "b"'), "b" * 9, under=some))

    def test_shown_texts(self):
        # The texts with such a line have 3 states; behind the step nothing counts.
        script = made('first "a" by "b"', 'drop lines is "x"', 'once "y" by ""')
        weight = 2 * 4
        self.assertEqual(shown_text(script, 1, True), "x")
        self.check(2500 // weight, (2500 // weight + 1) * weight, lambda some: shown_text(script, 1, True, under=some))

    def test_a_feed(self):
        self.assertEqual(Feed(made('once "abcde" by ""', 'once "xyabc" by ""', "drop lines number 1")).told, "")
        heavy = made('once "abcdef" by ""', 'once "xyabcz" by ""', "drop lines number 1")
        self.assertEqual(told_error(self, TooHeavy, Feed, heavy), (3600,))

    def test_without_a_set(self):
        ninety = made('once "abcdef" by ""', 'first "x" by "y"', 'first "z" by ""')
        self.assertEqual(script_weight(ninety), 120)
        for ask in (unlike_text, unrestored_text, merge_conflict):
            self.assertEqual(told_error(self, TooHeavy, ask, ninety, ninety), (14400,))
        for ask in (order_parting, merge_parting):
            self.assertEqual(told_error(self, TooHeavy, ask, ninety, TWO), (240 * 240,))

    def test_sets_count_by_their_least_tables(self):
        texts = set_of_states(1250)
        self.assertIsNone(broken_text(TWO, texts | ~texts, under=texts))
        self.assertIsNone(broken_text(TWO, all_texts(), under=texts & all_texts()))


class GuardsTest(unittest.TestCase):
    def test_guards_that_are_too_heavy_are_the_first_to_be_too_heavy(self):
        some, big = all_texts(), set_of_states(2501)
        for ask in (
                lambda: Feed(HEAVY), lambda: broken_text(HEAVY, some, under=big), lambda: refused_text(HEAVY, 0),
                lambda: needed_set(HEAVY, big), lambda: needed_many(HEAVY, big, 2), lambda: origin_text(HEAVY, "a" * 3000),
                lambda: clash_texts(HEAVY, under=big), lambda: unlike_text(HEAVY, HEAVIER),
                lambda: unlike_text(TWO, HEAVY, under=big), lambda: unrestored_text(HEAVY, HEAVIER),
                lambda: idle_text(HEAVY, 0), lambda: idle_steps(HEAVY), lambda: least_steps(HEAVY),
                lambda: order_text(HEAVY, 0), lambda: movable_places(HEAVY, 1), lambda: order_parting(HEAVY, HEAVIER),
                lambda: merge_conflict(HEAVY, HEAVIER), lambda: merge_parting(HEAVY, HEAVIER)):
            self.assertEqual(told_error(self, TooHeavy, ask), (2501,))
        for ask in (unlike_text, unrestored_text, order_parting, merge_conflict, merge_parting):
            self.assertEqual(told_error(self, TooHeavy, ask, HEAVIER, HEAVY), (10000,))


class TimeTest(unittest.TestCase):
    """Questions at the bound of weights end within some seconds."""

    def check(self, ask, *args, **more):
        began = time.monotonic()
        ask(*args, **more)
        self.assertLess(time.monotonic() - began, 30)

    def test_dense_sets(self):
        some, few, fewer = (dense_set(many, "abcdefgh", many) for many in (1250, 625, 25))
        none = Script([])
        self.check(broken_text, TWO, all_texts(), under=some)
        self.check(broken_text, TWO, some)
        self.check(refused_text, TWO, under=some)
        self.check(needed_set, TWO, some)
        self.check(needed_many, TWO, some, 200)
        self.check(unlike_text, TWO, none, under=some)
        self.check(unlike_text, TWO, TWO, under=few)
        self.check(unrestored_text, TWO, TWO_AGAIN, under=few)
        self.check(least_steps, TWO, under=few)
        self.check(movable_places, TWO, 0, under=few)
        self.check(clash_texts, TWO, under=fewer)
        self.check(clash_texts, none, under=dense_set(50, "abcdefgh", 1))
        self.check(order_parting, TWO, made('replace "q" by "r"'), under=few)
        self.check(merge_conflict, TWO, TWO_AGAIN, under=few)
        self.check(merge_parting, made('replace "a" by "x"'), made('replace "a" by "x"'), under=dense_set(2500, "abc", 2))

    def test_heavy_scripts(self):
        script = made('once "abcde" by ""', 'once "xyabc" by ""', "drop lines number 1")
        self.assertEqual(script_weight(script), 2500)
        self.check(Feed, script)
        self.check(refused_text, script)
        self.check(broken_text, script, all_texts())
        self.check(needed_many, script, all_texts(), 200)
        lines = made('replace "ab" by "ba" on lines has "xyzuv"', "keep lines short 3")
        self.assertEqual(script_weight(lines), 720)
        self.check(Feed, lines)
        self.check(refused_text, lines)
        self.check(needed_set, made('replace "a" by "" on lines has "x"'), set_of_states(35))
        half = made('once "abcde" by "fgh"', "drop lines all")
        self.assertEqual(script_weight(half), 50)
        self.check(unlike_text, half, half)
        self.check(clash_texts, half)
        self.check(least_steps, half)
        self.check(origin_text, made('replace "a" by "bbbbbb"', 'replace "b" by "cccccc"'), "c" * 2499)

    def test_many_steps(self):
        script = made('replace "a" by "b"', 'replace "bc" by "d"', 'first "e" by "f"', 'replace "g" by "h"',
                      'ahead "i" on lines all', 'first "jk" by "l"')
        for number in range(6):
            self.check(movable_places, script, number)
        self.check(least_steps, script)


if __name__ == "__main__":
    unittest.main()
