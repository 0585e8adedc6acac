"""Steps and scripts: [36] and [37]."""

import unittest
from itertools import product
from random import Random

from tests.support import any_script, any_step, told_error
from textworkshop.errors import BadStep, BadWord, NoTongue, TooMany
from textworkshop.guards import closed_guard, kind_guard, text_guard
from textworkshop.linetests import other_test, plain_test
from textworkshop.scripts import Script
from textworkshop.steps import (
    drop_step, first_step, keep_step, once_step, put_step, replace_step, strip_step, want_step)
from textworkshop.tongues import Tongue

ALL, LAST = plain_test("all"), plain_test("last")
A = text_guard("has", "a")
QUOTES = Tongue("quote ' to '")
NO_PATCHES = (None, 5, True, b"a", ["a"], ("a",), {}, "abcdefg", "\t", chr(37), "\u00e9", object(), ALL, A)
NO_WORDS = NO_PATCHES + ("",)
NO_TESTS = (5, True, False, "all", ["all"], A, object())
NO_STEPS = (None, 5, True, "drop lines all", [], ALL, A, object())
NO_TONGUES = (5, True, False, "", "quote ' to '", [], object(), A)


def fields(step):
    return step.word, step.old, step.new, step.kind, step.test, step.guard


class StepsTest(unittest.TestCase):
    def wrong(self, told, call, *args, **more):
        self.assertEqual(told_error(self, BadWord, call, *args, **more), (told,))

    def test_words_and_patches(self):
        for make, word in ((replace_step, "replace"), (first_step, "first"), (once_step, "once")):
            for old, new in product(("a", "abcdef", "\n", "\n\n"), ("", "a", "abcdef", "\n")):
                self.assertEqual(fields(make(old=old, new=new)), (word, old, new, None, None, None))
            for old in NO_WORDS:
                self.wrong("old", make, old, old)
                self.wrong("old", make, old, "a")
            for new in NO_PATCHES:
                self.wrong("new", make, "a", new)

    def test_kinds_of_replace(self):
        for kind in ("code", "quotes", "remarks"):
            self.assertEqual(fields(replace_step("a\n", "\n", kind=kind)), ("replace", "a\n", "\n", kind, None, None))
            self.wrong("test", replace_step, "a", "b", kind, ALL)
            self.wrong("test", replace_step, "a", "b", kind, 5)
        for kind in ("", "c", "Code", "quote", 5, True, False, ["code"], ("code",), {}, object(), ALL):
            self.wrong("kind", replace_step, "a", "b", kind)
            self.wrong("kind", replace_step, "a", "b", kind, 5)
            self.wrong("old", replace_step, "", "b", kind, 5)
            self.wrong("new", replace_step, "a", None, kind, 5)

    def test_tests_of_replace(self):
        for test in (ALL, other_test(LAST)):
            self.assertEqual(fields(replace_step("a", "", test=test)), ("replace", "a", "", None, test, None))
            self.wrong("old", replace_step, "a\n", "\n", None, test)
            self.wrong("old", replace_step, "\n", "", None, test)
            self.wrong("new", replace_step, "a", "b\n", None, test)
        for test in NO_TESTS:
            self.wrong("test", replace_step, "a", "b", None, test)
            self.wrong("test", replace_step, "\n", "\n", None, test)

    def test_steps_of_lines(self):
        for test in (ALL, other_test(LAST)):
            self.assertEqual(fields(drop_step(test=test)), ("drop", None, None, None, test, None))
            self.assertEqual(fields(keep_step(test=test)), ("keep", None, None, None, test, None))
            self.assertEqual(fields(strip_step(old="ab", test=test)), ("strip", "ab", None, None, test, None))
            for where in ("ahead", "behind", "above", "below"):
                self.assertEqual(fields(put_step(where=where, new="ab", test=test)), (where, None, "ab", None, test, None))
        for test in NO_TESTS + (None,):
            self.wrong("test", drop_step, test)
            self.wrong("test", keep_step, test)
            self.wrong("test", strip_step, "a", test)
            self.wrong("test", put_step, "below", "", test)
            self.wrong("new", put_step, "ahead", "", test)
            self.wrong("where", put_step, "strip", "\n", test)
            self.wrong("old", strip_step, "", test)

    def test_what_is_put(self):
        for where in (None, "", "Ahead", "on", "strip", 5, True, ["ahead"], ("ahead",), {}, object()):
            self.wrong("where", put_step, where, "a", ALL)
        for new in NO_PATCHES + ("\n", "a\n"):
            for where in ("ahead", "behind", "above", "below"):
                self.wrong("new", put_step, where, new, ALL)
        for where in ("above", "below"):
            self.assertEqual(put_step(where, "", ALL).new, "")
        for where in ("ahead", "behind"):
            self.wrong("new", put_step, where, "", ALL)
        for old in NO_WORDS + ("\n", "a\nb"):
            self.wrong("old", strip_step, old, ALL)

    def test_want(self):
        self.assertEqual(fields(want_step(guard=A)), ("want", None, None, None, None, A))
        for guard in (None, 5, True, 'has "a"', ALL, [A], object()):
            self.wrong("guard", want_step, guard)

    def test_equality(self):
        told = [replace_step("a", "b"), first_step("a", "b"), once_step("a", "b"), replace_step("a", "c"),
                replace_step("b", "b"), replace_step("a", "b", "code"), replace_step("a", "b", "quotes"),
                replace_step("a", "b", None, ALL), replace_step("a", "b", test=LAST), drop_step(ALL), keep_step(ALL),
                drop_step(LAST), put_step("ahead", "a", ALL), put_step("behind", "a", ALL), put_step("above", "a", ALL),
                put_step("below", "a", ALL), strip_step("a", ALL), strip_step("b", ALL), want_step(A), want_step(~A)]
        for (here, one), (there, two) in product(enumerate(told), repeat=2):
            self.assertEqual((one == two, one != two), (here == there, here != there))
        self.assertEqual(replace_step("a", "b", None, plain_test("all")), replace_step("a", "b", test=ALL))
        self.assertEqual(want_step(text_guard("has", "a")), want_step(A))
        source, same = Random(361), Random(361)
        for _ in range(100):
            self.assertEqual(any_step(source, "ab", True), any_step(same, "ab", True))
        for value in (None, "drop lines all", 5, ALL, object()):
            self.assertFalse(drop_step(ALL) == value)


class ScriptsTest(unittest.TestCase):
    def test_attributes(self):
        some = [drop_step(LAST), replace_step("a", "bc", "code")]
        script = Script(steps=some, tongue=QUOTES)
        some.append(drop_step(ALL))
        self.assertEqual((script.steps, script.tongue, script.growth), (tuple(some[:2]), QUOTES, 2))
        self.assertIsInstance(script.steps, tuple)
        empty = Script([])
        self.assertEqual((empty.steps, empty.tongue, empty.growth), ((), None, 1))
        self.assertEqual(Script((), QUOTES).tongue, QUOTES)

    def test_six_and_seven_steps(self):
        for kind in (list, tuple):
            self.assertEqual(len(Script(kind([drop_step(ALL)] * 6)).steps), 6)
            self.assertEqual(told_error(self, TooMany, Script, kind([drop_step(ALL)] * 7)), ("steps", 7, 6))
            self.assertEqual(told_error(self, TooMany, Script, kind([None] * 9), 5), ("steps", 9, 6))

    def test_entries_that_are_no_steps(self):
        for value in NO_STEPS:
            self.assertEqual(told_error(self, BadStep, Script, [value, value]), (0,))
            self.assertEqual(told_error(self, BadStep, Script, (drop_step(ALL), drop_step(ALL), value), 5), (2,))
        self.assertEqual(told_error(self, BadStep, Script, [replace_step("a", "b", "code"), None]), (1,))

    def test_tongues_that_are_none(self):
        for tongue in NO_TONGUES:
            self.assertEqual(told_error(self, BadWord, Script, [], tongue), ("tongue",))
            self.assertEqual(told_error(self, BadWord, Script, [replace_step("a", "b", "code")], tongue), ("tongue",))

    def test_steps_that_ask_for_kinds(self):
        plain, kind = replace_step("a", "b"), replace_step("a", "b", "remarks")
        for some, number in (([kind], 0), ([plain, kind, kind], 1), ([plain, want_step(A & ~closed_guard())], 1),
                             ((plain, plain, want_step(kind_guard("has", "a", "code")), kind), 2)):
            self.assertEqual(told_error(self, NoTongue, Script, some), (number,))
            self.assertEqual(len(Script(some, QUOTES).steps), len(some))
        self.assertEqual(len(Script([plain, want_step(A)]).steps), 2)
        long = [put_step("above", "abcdef", ALL)] * 3 + [kind]
        self.assertEqual(told_error(self, NoTongue, Script, long), (3,))

    def test_growth(self):
        for step, growth in (
                (replace_step("a", ""), 1), (replace_step("abc", "a"), 1), (replace_step("a", "abcdef"), 6),
                (first_step("a", "abc"), 3), (once_step("a", "ab"), 2), (put_step("ahead", "a", ALL), 2),
                (put_step("behind", "abcdef", ALL), 7), (put_step("above", "", ALL), 2),
                (put_step("below", "abcdef", ALL), 8), (drop_step(ALL), 1), (keep_step(ALL), 1),
                (strip_step("ab", ALL), 1), (want_step(A), 1)):
            self.assertEqual(Script([step]).growth, growth)
        six = replace_step("a", "abcdef")
        self.assertEqual(Script([six, drop_step(ALL), six]).growth, 36)
        for some, growth in (([six, six, put_step("above", "", ALL)], 72),
                             ([put_step("above", "abcdef", ALL), put_step("ahead", "abcd", ALL)], 40),
                             ((put_step("behind", "abcdef", ALL),) * 6, 7 ** 6)):
            self.assertEqual(told_error(self, TooMany, Script, some), ("growth", growth, 36))
            self.assertEqual(told_error(self, BadStep, Script, [*some[:-1], 5]), (len(some) - 1,))
            self.assertEqual(told_error(self, BadWord, Script, some, 5), ("tongue",))
        self.assertEqual(told_error(self, TooMany, Script, [put_step("ahead", "abcdef", ALL), put_step("above", "abc", ALL),
                                                            replace_step("a", "ab")]), ("growth", 70, 36))

    def test_equality(self):
        told = [Script([]), Script([], QUOTES), Script([], Tongue("")), Script([drop_step(ALL)]),
                Script([drop_step(ALL)], QUOTES), Script([drop_step(LAST)]), Script([drop_step(ALL), drop_step(LAST)]),
                Script([drop_step(LAST), drop_step(ALL)])]
        for (here, one), (there, two) in product(enumerate(told), repeat=2):
            self.assertEqual((one == two, one != two), (here == there, here != there))
        self.assertEqual(Script((drop_step(ALL),), Tongue("quote ' to '")), told[4])
        for value in (None, "", (), [], 5, object()):
            self.assertFalse(told[0] == value)
        source, same = Random(371), Random(371)
        for _ in range(30):
            self.assertEqual(any_script(source, "ab", 3), any_script(same, "ab", 3))


if __name__ == "__main__":
    unittest.main()
