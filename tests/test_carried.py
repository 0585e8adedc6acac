"""What must be true of a text ahead of a script, and what comes out: [56] to [58]."""

import unittest
from random import Random

from tests.asking import (
    SIGNS, any_question, check_first, dense_set, is_in, light_script, light_set, made, result_of, set_of_states)
from tests.support import any_guard, any_text, any_tongue, texts_up_to, told_error
from textworkshop.carried import broken_text, load_of, needed_many, needed_set, origin_text, refused_text
from textworkshop.errors import BadNumber, TooHeavy
from textworkshop.guards import and_guard, signs_guard
from textworkshop.guardsets import guard_set, linetest_weight
from textworkshop.questions import parts_of
from textworkshop.runs import refused_step
from textworkshop.scripts import Script
from textworkshop.signs import all_signs
from textworkshop.steps import want_step
from textworkshop.textsets import (
    all_texts, beginning_with, each_line, ending_with, having_word, joined_texts, no_texts, one_text, some_line)
from textworkshop.tongues import Tongue
from textworkshop.weights import test_guess

ABOVE = and_guard([signs_guard(39), signs_guard(59)])


def any_goal(source):
    """A set, not too heavy."""
    while True:
        try:
            return guard_set(any_guard(source, "ab\n", False, 1))
        except TooHeavy:
            pass


def light_question(source):
    return light_script(source, 3), None, light_set(source), list(texts_up_to(SIGNS, 4))


class BrokenTest(unittest.TestCase):
    def test_against_runs_of_all_short_texts(self):
        source = Random(561)
        for number in range(400):
            script, _, under, texts = light_question(source) if number < 200 else any_question(source)
            goal = any_goal(source)

            def shows(text):
                result = result_of(script, text)
                return is_in(under, text) and result is not None and result not in goal

            try:
                check_first(self, broken_text(script, goal, under=under), texts, shows)
            except TooHeavy:
                pass

    def test_ordinary_scripts(self):
        clean = made('drop lines has "a"')
        self.assertIsNone(broken_text(script=clean, goal=~having_word("a")))
        self.assertEqual(broken_text(clean, having_word("a")), "")
        self.assertEqual(broken_text(made('replace "ab" by ""'), ~having_word("ab")), "aabb")
        self.assertIsNone(broken_text(made('want has "a"'), having_word("a")))
        self.assertEqual(broken_text(Script([]), each_line(one_text("x"))), "")
        self.assertEqual(broken_text(Script([]), each_line(one_text("x") | one_text("")), under=having_word("x")), " x")

    def test_sets_of_one_text_and_of_none(self):
        script = made('once "a" by "b"')
        self.assertIsNone(broken_text(script, no_texts(), under=one_text("b")))
        self.assertEqual(broken_text(script, no_texts(), under=one_text("xa")), "xa")
        self.assertIsNone(broken_text(script, no_texts(), under=no_texts()))
        self.assertEqual(broken_text(script, no_texts()), "a")
        self.assertIsNone(broken_text(script, all_texts()))


class RefusedTest(unittest.TestCase):
    def test_against_runs_of_all_short_texts(self):
        source = Random(562)
        for number in range(300):
            script, _, under, texts = light_question(source) if number < 200 else any_question(source)
            for asked in [None, *range(len(script.steps))]:
                def shows(text):
                    step = refused_step(script, text)
                    return is_in(under, text) and step is not None and asked in (None, step)

                try:
                    check_first(self, refused_text(script, asked, under=under), texts, shows)
                except TooHeavy:
                    pass

    def test_each_step(self):
        script = made('once "a" by "ab"', 'replace "x" by "y"', 'once "b" by ""', 'want not has "q"')
        self.assertEqual([refused_text(script, number) for number in (None, 0, 1, 2, 3)], ["", "", None, "ab", "aq"])
        self.assertEqual(refused_text(script=script, number=2, under=~having_word("ab")), "ba")
        self.assertIsNone(refused_text(script, 2, under=~having_word("b")))

    def test_scripts_that_refuse_nothing(self):
        for script in (Script([]), made('first "a" by "b"', "drop lines all"), made('want has "a" or not has "a"')):
            self.assertIsNone(refused_text(script))
            self.assertIsNone(refused_text(script, None, under=having_word("a")))

    def test_numbers_of_steps_that_are_none(self):
        script = made('once "a" by "b"', 'want has "b"')
        heavy = Script([want_step(ABOVE), want_step(ABOVE)])
        for number in (-1, 2, True, False, "0", (0,), 0.0, object(), b"0", -1 - 10 ** 50):
            self.assertEqual(told_error(self, BadNumber, refused_text, script, number), ("number", number))
            self.assertEqual(told_error(self, BadNumber, refused_text, heavy, number), ("number", number))
        self.assertEqual(told_error(self, BadNumber, refused_text, Script([]), 0), ("number", 0))
        self.assertEqual(told_error(self, TooHeavy, refused_text, heavy, 1), (2501,))


class NeededTest(unittest.TestCase):
    def check(self, script, goal, texts):
        needed = needed_set(script, goal)
        for text in texts:
            result = result_of(script, text)
            self.assertEqual(text in needed, result is not None and result in goal, text)
        return needed

    def test_goals_and_their_rests(self):
        source = Random(571)
        texts = list(texts_up_to(SIGNS, 4))
        for number in range(160):
            script = light_script(source, 3) if number < 100 else any_question(source)[0]
            goal = any_goal(source)
            try:
                needed, others = self.check(script, goal, texts), self.check(script, ~goal, texts)
            except TooHeavy:
                continue
            self.assertTrue((needed & others).is_empty())
            self.assertEqual(needed_set(script=script, goal=all_texts()), needed | others)

    def test_scripts_one_behind_another(self):
        source = Random(572)
        for _ in range(150):
            one, other, goal = light_script(source, 1), light_script(source, 1), any_goal(source)
            try:
                both = needed_set(Script(one.steps + other.steps), goal)
            except ValueError:
                continue
            self.assertEqual(both, needed_set(one, needed_set(other, goal)))

    def test_kinds(self):
        source = Random(573)
        texts = list(texts_up_to("\n 'a#", 4))
        for _ in range(40):
            tongue = any_tongue(source, "'#", 2)
            kind = source.choice(["code", "quotes", "remarks"])
            script = made(f'replace "{source.choice(["a", chr(39), "a#"])}" by "b" in {kind}', tongue=tongue)
            try:
                self.check(script, having_word("b") & ~having_word("a"), texts)
            except TooHeavy:
                pass

    def test_ordinary_sets(self):
        clean = made('drop lines has "a"')
        needed = needed_set(clean, ~having_word("\n"))
        self.assertEqual((needed.table.states, "a\nb\na" in needed, "b\nc" in needed), (5, True, False))
        self.assertEqual(needed_set(made('replace "a" by ""'), no_texts()), no_texts())
        self.assertEqual(needed_set(Script([]), ending_with("a")), ending_with("a"))
        self.assertEqual(needed_set(made("drop lines all"), one_text("")), all_texts())
        self.assertEqual(needed_set(made('ahead "x" on lines all'), each_line(beginning_with("xa"))),
                         each_line(beginning_with("a")))
        self.assertEqual(needed_set(made('once "a" by "b"'), all_texts()).many_of(2), 188)
        self.assertEqual(needed_set(made('replace "a" by "b"'), having_word("a")), no_texts())
        self.assertEqual(needed_set(made('drop lines not has "x"'), having_word("x")), some_line(having_word("x")))

    def test_loads(self):
        for line, states, load in (
                ('replace "a" by ""', 2500, 2500), ('replace "ab" by "c"', 800, 2400), ('first "abc" by ""', 400, 2400),
                ('once "a" by "b"', 500, 2500), ('want has "a"', 625, 2500), ("drop lines all", 1250, 2500),
                ("keep lines number 4", 250, 2500), ('replace "a" by "" on lines number 1', 1250, 2500),
                ('replace "a" by "" on lines has "x"', 35, 2450), ("drop lines last", 25, 2500),
                ("keep lines short 0", 17, 2 * 34 * 34), ('ahead "x" on lines has "y"', 35, 2450),
                ("behind 'x' on lines last".replace("'", '"'), 50, 2500), ('strip "a" on lines last', 16, 2304),
                ('above "" on lines from number 1 to last', 25, 4 * 625)):
            part = parts_of(made(line))[0]
            self.assertEqual(load_of(part, states), load, line)
            needed_set(made(line), set_of_states(states))

    def test_too_heavy_loads(self):
        for line, states, load in (
                ('replace "ab" by ""', 834, 2502), ('once "a" by "b"', 501, 2505), ("keep lines number 4", 251, 2510),
                ('replace "a" by "" on lines has "x"', 36, 2592), ("drop lines last", 26, 2704),
                ('want has "a"', 626, 2504), ("keep lines short 0", 18, 2592), ('strip "a" on lines last', 17, 2601)):
            self.assertEqual(told_error(self, TooHeavy, needed_set, made(line), set_of_states(states)), (load,), line)
        self.assertEqual(told_error(self, TooHeavy, needed_set, made('replace "a" by "" on lines has "x"'),
                                    ~having_word("a" * 39)), (3200,))

    def test_the_last_step_that_is_too_heavy(self):
        goal = ~having_word("x" * 60)
        self.assertEqual(goal.table.states, 61)
        self.assertEqual(told_error(self, TooHeavy, needed_set, made(
            "drop lines last", 'keep lines has "x"', 'replace "a" by "b"'), goal), (2 * 122 * 122,))
        heavy = Script([want_step(ABOVE), *made("drop lines last").steps])
        self.assertEqual(told_error(self, TooHeavy, needed_set, heavy, goal), (2501,))
        # What is needed behind the first step has 2 states, though the goal has more of them.
        self.assertEqual(needed_set(made("drop lines last", 'want has "a" and not has "a"'), goal), no_texts())

    def test_no_more_states_than_the_load(self):
        source = Random(574)
        for _ in range(150):
            script, goal = light_script(source, 1), any_goal(source)
            part = parts_of(script)[0]
            try:
                states = needed_set(script, goal).table.states
            except TooHeavy:
                continue
            self.assertLessEqual(states, load_of(part, goal.table.states) + 1)

    def test_dense_goals_with_both_guesses(self):
        for line in ('replace "a" by "b" on lines has "c"', 'replace "a" by "bc" on lines not last'):
            script = made(line)
            test = script.steps[0].test
            self.assertEqual(test_guess(test), 2)
            goal = dense_set(35 if linetest_weight(test) == 2 else 50, "abc\n", 9)
            needed = self.check(script, goal, list(texts_up_to("\nabc", 5)))
            self.assertLessEqual(needed.table.states, 2500)


class ManyTest(unittest.TestCase):
    SPARE = "~"
    # The signs that scripts and goals name here, and one for the 87 others.
    USED = "\n abcx'#" + SPARE

    def plain_many(self, script, goal, length):
        """How many texts of a length are needed, by runs of every text over few signs."""
        many = 0
        for text in texts_up_to(self.USED, length):
            result = result_of(script, text)
            if len(text) == length and result is not None and result in goal:
                many += 87 ** text.count(self.SPARE)
        return many

    def test_against_runs_of_every_text_over_few_signs(self):
        source = Random(581)
        for number in range(120):
            script = light_script(source, 3) if number < 80 else any_question(source)[0]
            goal = any_goal(source)
            try:
                told = [needed_many(script, goal, length) for length in range(4)]
            except TooHeavy:
                continue
            self.assertEqual(told, [self.plain_many(script, goal, length) for length in range(4)])

    def test_goals_that_name_most_signs(self):
        few = each_line(one_text(""))
        for sign in "abcx":
            few = few | joined_texts(joined_texts(few, one_text(sign)), few)
        only = ~no_texts()
        for sign in all_signs():
            if sign not in "\nabcx":
                only = only & ~having_word(sign)
        for length in range(5):
            self.assertEqual(needed_many(made("want at most 99 signs"), only, length), 5 ** length)
            self.assertEqual(needed_many(made('replace "z" by "a"'), only, length), 6 ** length)
            self.assertEqual(needed_many(Script([]), few, length), few.many_of(length))

    def test_against_needed_sets(self):
        source = Random(582)
        for _ in range(150):
            script, goal = light_script(source, 2), any_goal(source)
            try:
                needed = needed_set(script, goal)
                for length in (0, 1, 2, 7, 60):
                    self.assertEqual(needed_many(script, goal, length), needed.many_of(length))
            except TooHeavy:
                pass

    def test_long_texts(self):
        clean = made('drop lines has "a"', 'replace "b" by "c"')
        for length in (0, 1, 199, 200):
            self.assertEqual(needed_many(clean, all_texts(), length), 95 ** length)
            self.assertEqual(needed_many(script=clean, goal=having_word("a"), length=length), 0)
        self.assertEqual(needed_many(made('once "a" by "b"'), all_texts(), 200), 200 * 94 ** 199)
        self.assertEqual(needed_many(made('once "a" by "b"'), having_word("bb"), 2), 2)
        self.assertEqual(needed_many(made('want has "a"'), all_texts(), 200), 95 ** 200 - 94 ** 200)


class OriginTest(unittest.TestCase):
    def test_against_runs_of_all_short_texts(self):
        source = Random(583)
        for number in range(300):
            script, _, under, texts = light_question(source) if number < 200 else any_question(source)
            result = result_of(script, source.choice(texts))
            if result is None or source.random() < 0.3:
                result = any_text(source, "ab\n x", 3)

            def shows(text):
                return is_in(under, text) and result_of(script, text) == result

            try:
                told = origin_text(script, result, under=under)
            except TooHeavy:
                continue
            check_first(self, told, texts, shows)

    def test_results_that_come_from_no_text(self):
        script = made('replace "a" by "b"')
        self.assertIsNone(origin_text(script=script, result="xa"))
        self.assertEqual(origin_text(script, "xb"), "xa")
        self.assertEqual(origin_text(script, "xb", under=~having_word("a")), "xb")
        self.assertIsNone(origin_text(script, "xb", under=one_text("b")))
        self.assertIsNone(origin_text(made('ahead "x" on lines all'), ""))
        self.assertIsNone(origin_text(made('want has "a"'), "b"))

    def test_the_empty_result(self):
        self.assertEqual(origin_text(Script([]), ""), "")
        self.assertEqual(origin_text(made('drop lines has "a"'), "", under=having_word("b")), "ab")
        self.assertEqual(origin_text(made("drop lines all"), "", under=having_word("\n")), "\n")
        self.assertEqual(origin_text(made('once "ab" by ""'), ""), "ab")

    def test_signs_that_only_the_result_names(self):
        self.assertEqual(origin_text(made("drop lines number 1"), "~z\n!"), "\n~z\n!")
        self.assertEqual(origin_text(made('replace "a" by "~"'), "q~"), "qa")

    def test_the_length_of_the_result_counts(self):
        script = made('once "a" by "b"')
        self.assertEqual(origin_text(script, "b" + "c" * 498), "a" + "c" * 498)
        self.assertEqual(told_error(self, TooHeavy, origin_text, script, "b" + "c" * 499), (2505,))
        self.assertEqual(origin_text(made('ahead "x" on lines all'), "xab\n" * 600 + "xabb"), "ab\n" * 600 + "abb")


class TongueTest(unittest.TestCase):
    def test_each_question_reads_with_the_tongue_of_the_script(self):
        tongue = Tongue("quote ' to '")
        script = made('replace "a" by "b" in quotes', "want closed", tongue=tongue)
        self.assertEqual(broken_text(script, ~having_word("b")), "b")
        self.assertEqual(broken_text(script, ~having_word("b"), under=~having_word("b")), "'a'")
        self.assertEqual(refused_text(script), "'")
        self.assertEqual(origin_text(script, "a'b'"), "a'a'")
        self.assertEqual(needed_many(script, having_word("b"), 1), 1)


if __name__ == "__main__":
    unittest.main()
