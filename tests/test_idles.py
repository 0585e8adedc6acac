"""Steps that are needed, tests that are settled, other orders: [61] to [66]."""

import unittest
from itertools import combinations
from random import Random

from tests.asking import SIGNS, any_question, check_first, is_in, light_script, light_set, made, result_of, set_of_states
from tests.support import texts_up_to, told_error
from textworkshop.alikes import unlike_text
from textworkshop.carried import refused_text
from textworkshop.errors import BadNumber, BadStep, BadWord, TooHeavy
from textworkshop.guards import and_guard, signs_guard
from textworkshop.idles import (
    idle_steps, idle_text, least_steps, movable_places, moved_script, order_text, part_script, shown_text)
from textworkshop.scripts import Script
from textworkshop.scripttexts import script_text
from textworkshop.steps import want_step
from textworkshop.textsets import all_texts, having_word, no_texts, one_text
from textworkshop.tongues import Tongue

ABOVE = and_guard([signs_guard(39), signs_guard(59)])
NO_NUMBERS = (-1, 3, True, False, None, "0", (0,), [0], 0.0, object(), 10 ** 60)
CHAIN = ('replace "a" by "b"', 'replace "b" by "c"', 'drop lines is "c"')
TEXTS = list(texts_up_to(SIGNS, 4))


def questions(seed, many):
    """Scripts, sets and texts, some of them light ones."""
    source = Random(seed)
    for _ in range(many):
        yield light_script(source, 4), light_set(source), TEXTS
        script, _, under, texts = any_question(source)
        yield script, under, texts


def plain_unlike(one, other, under, texts):
    """The first text that shows that two scripts are not alike, None if there is none among these."""
    for text in texts:
        if is_in(under, text) and result_of(one, text) != result_of(other, text):
            return text
    return None


class PartTest(unittest.TestCase):
    def test_parts_of_scripts(self):
        tongue = Tongue("quote ' to '")
        script = made(*CHAIN, tongue=tongue)
        self.assertEqual(script_text(part_script(script=script, numbers=(0, 2))), 'replace "a" by "b"\ndrop lines is "c"\n')
        self.assertEqual(part_script(script, (0, 1, 2)), script)
        self.assertEqual(part_script(script, ()), Script([], tongue))
        self.assertEqual(part_script(script, [1]).tongue, tongue)

    def test_wrong_numbers(self):
        script = made(*CHAIN)
        for number in NO_NUMBERS:
            self.assertEqual(told_error(self, BadNumber, part_script, script, (0, number, -1)), ("number", number))
        self.assertEqual(told_error(self, BadNumber, part_script, script, (1, 0, 7)), ("number", 0))
        self.assertEqual(told_error(self, BadNumber, part_script, script, (0, 1, 1)), ("number", 1))
        self.assertEqual(told_error(self, BadNumber, part_script, Script([]), (0,)), ("number", 0))

    def test_moved_scripts(self):
        script = made(*CHAIN)
        for number in range(3):
            for place in range(3):
                steps = list(script.steps)
                steps.insert(place, steps.pop(number))
                self.assertEqual(moved_script(script=script, number=number, place=place), Script(steps))
        tongue = Tongue("quote ' to '")
        self.assertEqual(moved_script(Script(script.steps, tongue), 0, 2).tongue, tongue)

    def test_wrong_places(self):
        script = made(*CHAIN)
        for wrong in NO_NUMBERS:
            self.assertEqual(told_error(self, BadNumber, moved_script, script, wrong, wrong), ("number", wrong))
            self.assertEqual(told_error(self, BadNumber, moved_script, script, 0, wrong), ("place", wrong))


class IdleTest(unittest.TestCase):
    def test_against_runs_of_all_short_texts(self):
        idle = 0
        for script, under, texts in questions(621, 100):
            many = range(len(script.steps))
            try:
                told = idle_steps(script, under=under)
            except TooHeavy:
                continue
            self.assertIs(type(told), tuple)
            self.assertEqual(idle_steps(script=script), idle_steps(script, under=all_texts()))
            for number in many:
                other = part_script(script, tuple(at for at in many if at != number))
                text = idle_text(script, number, under=under)
                check_first(self, text, texts, lambda tried: (
                    is_in(under, tried) and result_of(script, tried) != result_of(other, tried)))
                self.assertEqual(number in told, text is None)
                idle += text is None
            self.assertEqual(sorted(told), list(told))
        self.assertGreater(idle, 20)

    def test_with_and_without_a_set(self):
        twice = made('replace "a" by "b"', 'replace "a" by "b"')
        self.assertEqual(idle_steps(twice), (0, 1))
        chain = made(*CHAIN[:2])
        self.assertEqual([idle_text(chain, 0), idle_text(script=chain, number=1)], ["a", "a"])
        self.assertEqual(idle_steps(chain, under=~having_word("a")), (0,))
        self.assertEqual(idle_steps(chain, under=no_texts()), (0, 1))
        self.assertEqual(idle_steps(chain, under=one_text("xa")), ())
        self.assertEqual(idle_text(chain, 0, under=having_word("x")), "ax")
        self.assertEqual(idle_steps(Script([])), ())

    def test_idle_under_each_set_within(self):
        for script, under, _ in questions(622, 30):
            try:
                told = idle_steps(script)
                if under is not None:
                    self.assertLessEqual(set(told), set(idle_steps(script, under=under)))
            except TooHeavy:
                pass

    def test_wants(self):
        # A want that refuses no text that comes to it is idle; the last step that refuses some text is not.
        lines = made('drop lines has "a"', 'want not has "a"')
        self.assertEqual((idle_text(lines, 0), idle_steps(lines)), ("a", (1,)))
        later = made('want has "a"', 'want has "ab"')
        self.assertEqual((idle_steps(later), refused_text(later, 0)), ((0,), ""))
        self.assertEqual(idle_text(later, 1), "a")

    def test_errors(self):
        heavy = Script([want_step(ABOVE), want_step(ABOVE), want_step(ABOVE)])
        for number in NO_NUMBERS:
            for ask in (idle_text, order_text, movable_places):
                self.assertEqual(told_error(self, BadNumber, ask, heavy, number), ("number", number))
                self.assertEqual(told_error(self, BadNumber, ask, heavy, number, under=all_texts()), ("number", number))
            self.assertEqual(told_error(self, BadNumber, shown_text, heavy, number, None), ("number", number))
            self.assertEqual(told_error(self, BadNumber, moved_script, heavy, number, None), ("number", number))
        self.assertEqual(told_error(self, TooHeavy, idle_text, heavy, 0), (2501,))

    def test_weights(self):
        # The weights are 10, 6 and 4: the script counts, and the script without the step.
        script = made('once "ab" by "x"', 'first "abc" by ""', 'drop lines number 1')
        for number, weight in ((0, 240 * 24), (1, 240 * 40), (2, 240 * 60)):
            self.assertEqual(told_error(self, TooHeavy, idle_text, script, number), (weight,))
        self.assertEqual(told_error(self, TooHeavy, idle_steps, script), (240 * 24,))
        lighter = made('once "ab" by "x"', 'first "abc" by ""')
        self.assertEqual([idle_text(lighter, 0), idle_text(lighter, 1)], ["", None])
        self.assertEqual(told_error(self, TooHeavy, idle_steps, lighter, under=set_of_states(5)), (60 * 10 * 5,))
        self.assertEqual(idle_text(lighter, 0, under=set_of_states(6)), "aaaa")
        self.assertEqual(told_error(self, TooHeavy, idle_steps, lighter, under=set_of_states(7)), (60 * 6 * 7,))


class LeastTest(unittest.TestCase):
    def plain_least(self, script, under):
        """The first choice, by its size and by order, that makes a script that is alike."""
        many = len(script.steps)
        for size in range(many + 1):
            for numbers in combinations(range(many), size):
                if unlike_text(script, part_script(script, numbers), under=under) is None:
                    return numbers
        return None

    def test_against_all_choices(self):
        fewer = 0
        for script, under, _ in questions(631, 100):
            try:
                told = least_steps(script, under=under)
            except TooHeavy:
                continue
            self.assertEqual(told, self.plain_least(script, under))
            self.assertEqual(idle_steps(part_script(script, told), under=under), ())
            fewer += len(told) < len(script.steps)
        self.assertGreater(fewer, 20)

    def test_ordinary_choices(self):
        twice = made('replace "a" by "b"', 'replace "a" by "b"')
        self.assertEqual([idle_steps(twice), least_steps(script=twice)], [(0, 1), (0,)])
        chain = made(*CHAIN[:2])
        self.assertEqual(least_steps(chain), (0, 1))
        self.assertEqual(least_steps(chain, under=~having_word("a") - having_word("b")), ())
        self.assertEqual(least_steps(chain, under=no_texts()), ())
        self.assertEqual(least_steps(Script([])), ())
        six = made(*['replace "a" by "b"', 'replace "b" by "c"'] * 3)
        self.assertEqual(least_steps(six), (0, 1))
        # Of several choices with so many steps the least first number counts, then the least second one.
        self.assertEqual(least_steps(made('replace "b" by "c"', 'replace "a" by "b"', 'replace "b" by "c"',
                                          'replace "b" by "c"')), (1, 2))
        self.assertEqual(least_steps(made('replace "x" by "y"', 'replace "a" by "b"', 'replace "x" by "y"')), (0, 1))

    def test_the_script_counts_twice(self):
        script = made('once "abcde" by "x"', "drop lines all")
        self.assertEqual(least_steps(script), (0, 1))
        self.assertEqual(told_error(self, TooHeavy, least_steps, script, under=set_of_states(2)), (5000,))


class ShownTest(unittest.TestCase):
    def test_against_runs_of_all_short_texts(self):
        settled = 0
        for script, under, texts in questions(641, 100):
            for number, step in enumerate(script.steps):
                if step.test is None:
                    continue
                ahead = part_script(script, tuple(range(number)))
                for truth in (True, False):
                    def shows(text):
                        result = result_of(ahead, text)
                        return (is_in(under, text) and result is not None
                                and truth in step.test.truths(result.split("\n")))

                    try:
                        told = shown_text(script, number, truth, under=under)
                    except TooHeavy:
                        continue
                    check_first(self, told, texts, shows)
                    settled += told is None
        self.assertGreater(settled, 10)

    def test_ordinary_steps(self):
        clean = made('replace "x" by ""', 'drop lines has "x"', 'ahead "-" on lines short 0')
        self.assertEqual([shown_text(clean, 1, True), shown_text(script=clean, number=1, truth=False)], [None, ""])
        self.assertEqual([shown_text(clean, 2, False), shown_text(clean, 2, False, under=~having_word(" "))], [" ", "!"])
        self.assertEqual(shown_text(made('want has "b"', "drop lines not number 1"), 1, True), "\nb")
        self.assertIsNone(shown_text(made('want not has "\\n"', "drop lines not number 1"), 1, True))
        self.assertIsNone(shown_text(made('drop lines all'), 0, False))
        self.assertEqual(shown_text(made('replace "a" by "b" on lines not last'), 0, True), "\n")
        self.assertIsNone(shown_text(made('want is "a" and is "b"', "drop lines all"), 1, True))

    def test_a_settled_test_stays_settled(self):
        script = made('replace "x" by ""', 'strip "a" on lines has "x"')
        self.assertIsNone(shown_text(script, 1, True))
        self.assertIsNone(shown_text(script, 1, True, under=having_word("ax")))

    def test_errors_in_their_order(self):
        big, long = set_of_states(2501), 'from short 40 to short 40'
        script = made('once "a" by "b"', f"drop lines {long}", 'replace "a" by "b"', 'drop lines has "a"')
        script = Script([want_step(ABOVE), *script.steps])
        for truth in (True, None):
            for number in (1, 3):
                self.assertEqual(told_error(self, BadStep, shown_text, script, number, truth, under=big), (number,))
        for truth in (None, 1, 0, "True", [], object()):
            for number in (2, 4):
                self.assertEqual(told_error(self, BadWord, shown_text, script, number, truth, under=big), ("truth",))
        for truth in (True, False):
            self.assertEqual(told_error(self, TooHeavy, shown_text, script, 2, truth, under=big), (3529,))
            self.assertEqual(told_error(self, TooHeavy, shown_text, script, 4, truth, under=big), (2501,))
        self.assertEqual(told_error(self, TooHeavy, shown_text, made('drop lines has "a"'), 0, True, under=big), (5002,))

    def test_only_the_steps_ahead_count(self):
        behind = Script([*made('drop lines has "a"').steps, want_step(ABOVE)])
        self.assertEqual([shown_text(behind, 0, True), shown_text(behind, 0, False)], ["a", ""])
        once = made('once "abcde" by ""', 'first "abcde" by "x"', 'keep lines has "abc"')
        self.assertEqual(shown_text(once, 2, True), "aabcdebc")
        self.assertEqual(told_error(self, TooHeavy, shown_text, once, 2, True, under=set_of_states(3)), (25 * 10 * 4 * 3,))


class OrderTest(unittest.TestCase):
    def test_against_runs_of_all_short_texts(self):
        for script, under, texts in questions(651, 80):
            many = len(script.steps)
            try:
                for number in range(many):
                    places = movable_places(script, number, under=under)
                    self.assertIn(number, places)
                    self.assertEqual(list(places), sorted(places))
                    for place in range(many):
                        moved = moved_script(script, number, place)
                        if place in places:
                            self.assertIsNone(plain_unlike(script, moved, under, texts))
                        else:
                            self.assertIsNotNone(unlike_text(script, moved, under=under))
                    if number + 1 < many:
                        moved = moved_script(script, number, number + 1)
                        text = order_text(script, number, under=under)
                        check_first(self, text, texts, lambda tried: (
                            is_in(under, tried) and result_of(script, tried) != result_of(moved, tried)))
                        self.assertEqual(text is None, number + 1 in places)
            except TooHeavy:
                pass

    def test_a_step_that_may_be_moved_further_than_to_the_next_place(self):
        # What one exchange spoils, the next one mends.
        back = made('replace "a" by "b"', 'replace "b" by "a"', 'ahead "x" on lines all')
        self.assertEqual([order_text(script=back, number=0), order_text(back, 1)], ["a", None])
        self.assertEqual(movable_places(script=back, number=2), (0, 1, 2))
        script = made('replace "a" by "b"', 'replace "b" by "c"', 'replace "a" by "b"')
        self.assertIsNotNone(order_text(script, 0))
        self.assertEqual(movable_places(script, 0, under=~having_word("a")), (0, 1, 2))

    def test_under_sets(self):
        chain = made(*CHAIN[:2])
        self.assertEqual(order_text(chain, 0, under=having_word("xx")), "axx")
        self.assertIsNone(order_text(chain, 0, under=~having_word("a")))
        self.assertIsNone(order_text(chain, 0, under=no_texts()))
        self.assertEqual(movable_places(chain, 1, under=one_text("b")), (0, 1))
        self.assertEqual(movable_places(chain, 1, under=one_text("a")), (1,))

    def test_the_last_step_and_a_single_one(self):
        chain = made(*CHAIN)
        self.assertEqual(told_error(self, BadNumber, order_text, chain, 2), ("number", 2))
        single = made('once "abcde" by "x"', "drop lines all")
        self.assertEqual(told_error(self, BadNumber, order_text, part_script(single, (0,)), 0), ("number", 0))
        self.assertEqual(movable_places(part_script(single, (0,)), 0), (0,))
        self.assertEqual(told_error(self, TooHeavy, movable_places, part_script(single, (0,)), 0, under=set_of_states(5)),
                         (3125,))
        self.assertEqual(told_error(self, TooHeavy, order_text, single, 0, under=set_of_states(2)), (5000,))


if __name__ == "__main__":
    unittest.main()
