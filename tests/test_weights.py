"""Weights: [45], [48]."""

import unittest

from tests.asking import made
from tests.support import told_error, tongue_of_weight
from textworkshop.errors import NoTongue, TooHeavy
from textworkshop.guards import and_guard, closed_guard, signs_guard
from textworkshop.guardsets import guard_set, linetest_weight
from textworkshop.guardtexts import read_guard
from textworkshop.linetests import other_test
from textworkshop.linetesttexts import read_linetest
from textworkshop.scripts import Script
from textworkshop.steps import drop_step, want_step
from textworkshop.weights import script_weight, step_weight, test_guess

ABOVE = and_guard([signs_guard(39), signs_guard(59)])
GUESSES = (
    ("all", 1), ("number 1", 1), ("number 6", 1), ("last", 2), ('begins ""', 2), ('begins "a"', 2), ('ends "a"', 2),
    ('has ""', 2), ('is "ab"', 2), ("short 0", 2), ("short 40", 2), ("from all to all", 1),
    ("from number 2 to number 3", 1), ("from number 1 to last", 2), ('from has "a" to all', 2),
    ("from short 1 to last", 2))
# Weight of the test and guess are 7 * 1, 2 * 2, 1 * 2, 2 * 2 * 7 * 1, and 2 * 2 * 3 * 2.
TESTS = (("number 6", 7), ('has "a"', 4), ("last", 2), ("from number 1 to number 6", 28), ('from number 1 to has "ab"', 24))


class GuessTest(unittest.TestCase):
    def test_each_kind_of_test(self):
        for line, guess in GUESSES:
            self.assertEqual(test_guess(read_linetest(line)), guess, line)
            self.assertEqual(test_guess(test=other_test(read_linetest(line))), guess, line)


class StepWeightTest(unittest.TestCase):
    def check(self, line, weight, tongue=None):
        self.assertEqual(step_weight(made(line, tongue=tongue).steps[0], tongue=tongue), weight, line)
        self.assertEqual(script_weight(made(line, tongue=tongue)), weight, line)

    def test_words(self):
        for word, size in (("a", 1), ("ab", 2), ("abcdef", 6), ("a\\na", 3)):
            self.check(f'replace "{word}" by ""', 2 * size - 1)
            self.check(f'first "{word}" by "xyz"', 2 * size)
            self.check(f'once "{word}" by ""', 5 * size)

    def test_kinds(self):
        for weight in (1, 3, 30):
            tongue = tongue_of_weight(weight)
            for kind in ("code", "quotes", "remarks"):
                self.check(f'replace "a" by "b" in {kind}', weight, tongue)
                self.check(f'replace "abcd" by "b" in {kind}', 7 * weight, tongue)
            # A tongue that is not asked for plays no part.
            self.check('replace "ab" by "b"', 3, tongue)
            self.check('want has "ab"', 6, tongue)

    def test_lines(self):
        for line, test in (("all", 1), *TESTS):
            for told in (line, "not " + line):
                self.check(f'replace "abc" by "b" on lines {told}', 5 * test)
                self.check(f"drop lines {told}", 2 * test)
                self.check(f"keep lines {told}", 2 * test)
                for word in ("ahead", "behind", "above", "below"):
                    self.check(f'{word} "abc" on lines {told}', test)
                self.check(f'strip "abc" on lines {told}', 7 * test)
                self.check(f'strip "a" on lines {told}', 3 * test)

    def test_wants(self):
        for told in ('has "ab"', "at most 7 signs", 'is "a" and is "b"', 'not has "a" or has "a"', 'each line has "a"'):
            self.check(f"want {told}", 2 * guard_set(read_guard(told)).table.states)
        self.check('want is "a" and is "b"', 2)
        tongue = tongue_of_weight(7)
        self.check("want closed", 2 * guard_set(closed_guard(), tongue).table.states, tongue)

    def test_errors(self):
        step = made('replace "a" by "b" in code', tongue=tongue_of_weight(2)).steps[0]
        self.assertEqual(told_error(self, NoTongue, step_weight, step), (0,))
        self.assertEqual(step_weight(step, tongue=tongue_of_weight(9)), 9)
        heavy = want_step(and_guard([ABOVE, closed_guard()]))
        self.assertEqual(told_error(self, NoTongue, step_weight, heavy), (0,))
        self.assertEqual(told_error(self, TooHeavy, step_weight, heavy, tongue=tongue_of_weight(2)), (5002,))
        self.assertEqual(told_error(self, TooHeavy, step_weight, want_step(ABOVE)), (2501,))


class ScriptWeightTest(unittest.TestCase):
    def test_products(self):
        self.assertEqual(script_weight(Script([])), 1)
        self.assertEqual(script_weight(Script([], tongue_of_weight(9))), 1)
        script = made('replace "ab" by "c"', 'once "x" by ""', 'keep lines has "b"', 'want has "a"')
        self.assertEqual(script_weight(script=script), 3 * 5 * 8 * 4)
        six = Script([drop_step(read_linetest("short 40"))] * 6)
        weight = 1
        for step in six.steps:
            weight *= 2 * 2 * linetest_weight(step.test)
        self.assertEqual(script_weight(six), weight)

    def test_the_first_guard_that_is_too_heavy(self):
        more = and_guard([signs_guard(98), signs_guard(98)])
        script = Script([want_step(signs_guard(1)), want_step(more), want_step(ABOVE)])
        self.assertEqual(told_error(self, TooHeavy, script_weight, script), (10000,))


if __name__ == "__main__":
    unittest.main()
