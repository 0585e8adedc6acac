"""Runs of scripts: [35] and [38]."""

import unittest
from random import Random

from tests.support import any_script, any_step, any_text, any_tongue, plain_places, plain_run, texts_up_to, told_error
from textworkshop.errors import BadStep, BadWord, NoTongue, Refused
from textworkshop.guards import closed_guard, text_guard
from textworkshop.linetests import other_test, plain_test, range_test
from textworkshop.runs import refused_step, run_script, run_stages, taken_places
from textworkshop.scripts import Script
from textworkshop.scripttexts import read_script
from textworkshop.steps import (
    drop_step, first_step, keep_step, once_step, put_step, replace_step, strip_step, want_step)
from textworkshop.tongues import Tongue

ALL, LAST, FIRST = plain_test("all"), plain_test("last"), plain_test("number", 1)
A = text_guard("has", "a")
QUOTES = Tongue("quote ' to '\nremark // to line")
NO_TEXTS = (None, 5, True, b"a", ["a"], ("a",), {}, "\t", chr(37), "a\u00e9", object(), A)


def run(text, *some, tongue=None):
    return run_script(Script(some, tongue), text)


class RunsTest(unittest.TestCase):
    def check(self, script, text):
        texts, number = plain_run(script, text)
        self.assertEqual(run_stages(script, text), tuple(texts))
        self.assertEqual(refused_step(script, text), number)
        if number is None:
            self.assertEqual(run_script(script, text), texts[-1])
        else:
            self.assertEqual(told_error(self, Refused, run_script, script, text), (number,))

    def test_each_step_on_all_short_texts(self):
        source = Random(351)
        for _ in range(150):
            script = Script([any_step(source, "ab\n", False)])
            for text in texts_up_to("\nab", 4):
                self.check(script, text)

    def test_scripts(self):
        source = Random(352)
        for _ in range(150):
            script = any_script(source, "ab\n", 6)
            for text in ["", "\n", *(any_text(source, "aab\n", 9) for _ in range(10))]:
                self.check(script, text)

    def test_scripts_with_tongues(self):
        source = Random(353)
        for number in range(150):
            tongue = QUOTES if number < 100 else any_tongue(source, "'/", 3)
            script = any_script(source, "a'/\n", 4, tongue)
            for text in ["", "'", *(any_text(source, "aa'/\n", 12) for _ in range(10))]:
                self.check(script, text)

    def test_places_that_overlap(self):
        self.assertEqual(run("aaaaa", replace_step("aa", "b")), "bba")
        self.assertEqual(run("aaaaa", replace_step("aa", "aa")), "aaaaa")
        self.assertEqual(run("ababa", first_step("aba", "x")), "xba")
        self.assertEqual(run("baab", first_step("c", "x")), "baab")
        once = Script([once_step("aa", "x")])
        self.assertEqual(run_script(once, "baab"), "bxb")
        self.assertEqual([refused_step(once, text) for text in ("", "a", "aaa", "aabaa", "aa")], [0, 0, 0, 0, None])

    def test_what_was_put_is_not_looked_at(self):
        self.assertEqual(run("ab", replace_step("ab", "b")), "b")
        self.assertEqual(run("aab", replace_step("ab", "")), "a")
        self.assertEqual(run("aabb", replace_step("ab", "")), "ab")
        self.assertEqual(run("aaa", replace_step("a", "aa")), "aaaaaa")
        self.assertEqual(run("aa", replace_step("a", "\n")), "\n\n")
        self.assertEqual(run("a\na", replace_step("a\n", "")), "a")

    def test_places_that_are_left_out_are_passed_by_one_sign(self):
        # aa at 1 begins outside of the quote; the place behind it is taken.
        self.assertEqual(run("a'aaa'", replace_step("aa", "b", "quotes"), tongue=QUOTES), "a'ba'")
        self.assertEqual(run("''a'", replace_step("''", "b", "code"), tongue=QUOTES), "''a'")
        self.assertEqual(run("aa//a", replace_step("a/", "b", "code"), tongue=QUOTES), "aa//a")
        self.assertEqual(run("aa//aa", replace_step("/a", "b", "remarks"), tongue=QUOTES), "aa/ba")
        dash = Tongue("remark / to -")
        self.assertEqual(run("/---", replace_step("--", "x", "code"), tongue=dash), "/-x")
        self.assertEqual(taken_places(replace_step("--", "x", "code"), "/-----", dash), (2, 4))
        self.assertEqual(run("a\naa\na", replace_step("a", "b", test=other_test(LAST))), "b\nbb\na")
        self.assertEqual(run("aaa\nb", replace_step("aa", "", test=plain_test("has", "aaa"))), "a\nb")
        self.assertEqual(run("aba'aba'", replace_step("aba", "x", "quotes"), tongue=QUOTES), "aba'x'")

    def test_tests_and_kinds_are_asked_of_the_text_ahead_of_the_step(self):
        self.assertEqual(run("a\na", replace_step("a", "b", test=plain_test("has", "a"))), "b\nb")
        self.assertEqual(run("a\nb", drop_step(FIRST), drop_step(FIRST)), "")
        self.assertEqual(run("'a'a", replace_step("'", "", "quotes"), replace_step("a", "b", "code"), tongue=QUOTES), "bb")

    def test_lines_that_go(self):
        for text, test, left in (
                ("", ALL, ""), ("", other_test(ALL), ""), ("a\n", FIRST, ""), ("a\n", LAST, "a"), ("\n", FIRST, ""),
                ("a\nb\nc", FIRST, "b\nc"), ("a\nb\nc", LAST, "a\nb"), ("a\nb\nc", plain_test("number", 2), "a\nc"),
                ("a\n\nc", plain_test("is", ""), "a\nc"), ("a\nb\n\nc", other_test(plain_test("short", 0)), ""),
                ("a\nb\n\nc", other_test(LAST), "c"), ("x\nx\ny\nx", plain_test("has", "x"), "y"), ("\n\n", ALL, "")):
            self.assertEqual(run(text, drop_step(test)), left)
            other = other_test(test) if not test.negated else plain_test(test.word, test.argument)
            self.assertEqual(run(text, keep_step(other)), left)

    def test_what_is_put_on_lines(self):
        for text, where, test, left in (
                ("", "ahead", ALL, "x"), ("", "behind", ALL, "x"), ("", "above", ALL, "x\n"), ("", "below", ALL, "\nx"),
                ("\n", "ahead", ALL, "x\nx"), ("a\nb", "behind", FIRST, "ax\nb"), ("a\nb", "above", LAST, "a\nx\nb"),
                ("a\nb", "below", FIRST, "a\nx\nb"), ("a\n", "below", LAST, "a\n\nx"), ("a\n\nb", "above", ALL, "x\na\nx\n\nx\nb"),
                ("a\n", "behind", plain_test("is", ""), "a\nx"), ("ab", "behind", other_test(ALL), "ab")):
            self.assertEqual(run(text, put_step(where, "x", test)), left)
        self.assertEqual([run("", put_step(where, "", ALL)) for where in ("above", "below")], ["\n", "\n"])

    def test_strip(self):
        self.assertEqual(run("abab\nab\nb\nxab", strip_step("ab", ALL)), "ab\n\nb\nxab")
        self.assertEqual(run("ab\nab", strip_step("ab", LAST)), "ab\n")
        self.assertEqual(run("", strip_step("a", ALL)), "")

    def test_ranges(self):
        test = range_test(plain_test("is", "{"), plain_test("is", "}"))
        self.assertEqual(run("a\n{\nb\n}\nc\n{\nd", drop_step(test)), "a\nc")
        self.assertEqual(run("}\n{\n{\n}\n}", replace_step("}", "!", test=test)), "}\n{\n{\n!\n}")

    def test_want(self):
        for guard, text, number in ((A, "a", None), (A, "b", 1), (closed_guard(), "'", 1), (closed_guard(), "''", None)):
            script = Script([drop_step(other_test(ALL)), want_step(guard), want_step(text_guard("is", "q") | ~A | A)], QUOTES)
            self.assertEqual(refused_step(script, text), number)
            self.assertEqual(run_stages(script, text), (text,) * (4 if number is None else 2))

    def test_refusing_at_the_first_a_middle_and_the_last_step(self):
        for at in range(3):
            told = ['replace "a" by "b"', 'ahead "x" on lines all', 'drop lines has "y"']
            script = read_script("\n".join([*told[:at], 'once "q" by "q"', *told[at:]]))
            stages = ("a\ny", "b\ny", "xb\nxy", "xb")
            self.assertEqual(told_error(self, Refused, run_script, script=script, text="a\ny"), (at,))
            self.assertEqual(refused_step(script=script, text="a\ny"), at)
            self.assertEqual(run_stages(script=script, text="a\ny"), stages[:at + 1])
        self.assertEqual(run_stages(read_script("\n".join(told)), "a\ny"), stages)

    def test_scripts_without_steps(self):
        for text in ("", "a\n", "x" * 2000):
            self.assertEqual((run_script(Script([]), text), refused_step(Script([]), text), run_stages(Script([]), text)),
                             (text, None, (text,)))

    def test_values_that_are_no_texts(self):
        for text in NO_TEXTS:
            for script in (Script([]), Script([once_step("a", "b"), drop_step(ALL)])):
                for call in (run_script, refused_step, run_stages):
                    self.assertEqual(told_error(self, BadWord, call, script, text), ("text",))

    def test_texts_of_2000_signs(self):
        text = ("a'b\n" * 500)
        script = Script([replace_step("a", "aaaaaa"), put_step("ahead", "xx", ALL), replace_step("'", "''", "quotes"),
                         keep_step(ALL), strip_step("x", ALL), first_step("b", "")], QUOTES)
        self.check(script, text)
        self.assertEqual(taken_places(replace_step("a'", ""), "a'" * 1000), tuple(range(0, 2000, 2)))
        grown = Script([replace_step("a", "aaaaaa"), replace_step("a", "aaaaaa")])
        self.assertEqual(run_script(grown, "a" * 2000), "a" * 72000)


class TakenPlacesTest(unittest.TestCase):
    def test_words(self):
        source = Random(381)
        for _ in range(300):
            step = any_step(source, "aab'/\n", True)
            if step.word not in ("replace", "first", "once"):
                continue
            for text in [any_text(source, "aab'/\n", 9) for _ in range(12)]:
                self.assertEqual(taken_places(step, text, QUOTES), tuple(plain_places(step, text, QUOTES)))

    def test_places_of_once(self):
        step = once_step("aa", "b")
        self.assertEqual([taken_places(step=step, text=text) for text in ("", "aa", "aaa", "aabaa")],
                         [(), (0,), (0, 1), (0, 3)])

    def test_lines(self):
        text = "ab\nb\n\nab"
        for test, lines in ((ALL, (0, 1, 2, 3)), (LAST, (3,)), (plain_test("has", "a"), (0, 3)), (other_test(ALL), ())):
            for step in (drop_step(test), keep_step(test), put_step("ahead", "x", test), put_step("behind", "x", test),
                         put_step("above", "", test), put_step("below", "x", test)):
                self.assertEqual(taken_places(step, text), lines)
            self.assertEqual(taken_places(strip_step("ab", test), text), tuple(line for line in lines if line in (0, 3)))
        self.assertEqual(taken_places(drop_step(ALL), ""), (0,))

    def test_want_and_kinds(self):
        self.assertEqual((taken_places(want_step(A), "b"), taken_places(want_step(closed_guard()), "'", QUOTES)), ((), ()))
        step = replace_step("a", "", "quotes")
        self.assertEqual(taken_places(step, "a'a'a'a", tongue=QUOTES), (2, 6))
        self.assertEqual(taken_places(step, "", tongue=QUOTES), ())
        self.assertEqual(taken_places(replace_step("a", "b"), "a"), (0,))

    def test_errors_in_their_order(self):
        kind = replace_step("a", "", "quotes")
        for step in (None, 5, True, "drop lines all", ALL, A, Script([])):
            self.assertEqual(told_error(self, BadStep, taken_places, step, 5, 5), (0,))
        for text in NO_TEXTS:
            self.assertEqual(told_error(self, BadWord, taken_places, kind, text, 5), ("text",))
            self.assertEqual(told_error(self, BadWord, taken_places, kind, text), ("text",))
        for tongue in (5, True, False, "", "quote ' to '", [], object()):
            self.assertEqual(told_error(self, BadWord, taken_places, kind, "a", tongue), ("tongue",))
            self.assertEqual(told_error(self, BadWord, taken_places, drop_step(ALL), "a", tongue), ("tongue",))
        for step in (kind, want_step(A & closed_guard())):
            self.assertEqual(told_error(self, NoTongue, taken_places, step, "a"), (0,))


if __name__ == "__main__":
    unittest.main()
