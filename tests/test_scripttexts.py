"""Texts of scripts: [43] and [44], with [23], [30] and [42]."""

import unittest
from random import Random

from tests.support import any_script, any_step, goings_on, linetest_sentences, spoilt_lines, told_error, wrong_column
from textworkshop.errors import BadNumber, BadText, BadWord, NoTongue, TooMany
from textworkshop.guards import closed_guard, text_guard
from textworkshop.linetests import other_test, plain_test
from textworkshop.scripts import Script
from textworkshop.scripttexts import read_script, script_text, step_text
from textworkshop.steps import (
    drop_step, first_step, keep_step, once_step, put_step, replace_step, strip_step, want_step)
from textworkshop.tongues import Tongue

ALL, LAST = plain_test("all"), plain_test("last")
QUOTES = Tongue("quote ' to '")
STEPS = (
    ('replace "a" by "b"', replace_step("a", "b")), ('replace "a\\n" by ""', replace_step("a\n", "")),
    ('replace "a" by "b" in code', replace_step("a", "b", "code")),
    ('replace "a" by "b" in quotes', replace_step("a", "b", "quotes")),
    ('replace "a" by "b" in remarks', replace_step("a", "b", "remarks")),
    ('replace "a" by "b" on lines not last', replace_step("a", "b", None, other_test(LAST))),
    ('first "a" by "b"', first_step("a", "b")), ('once "\\"" by "\\\\"', once_step('"', "\\")),
    ("drop lines all", drop_step(ALL)), ("keep lines not short 3", keep_step(other_test(plain_test("short", 3)))),
    ('ahead "a b" on lines all', put_step("ahead", "a b", ALL)), ('behind "a" on lines last', put_step("behind", "a", LAST)),
    ('above "" on lines all', put_step("above", "", ALL)), ('below "a" on lines all', put_step("below", "a", ALL)),
    ('strip "a" on lines all', strip_step("a", ALL)), ('want has "a"', want_step(text_guard("has", "a"))),
    ("want closed or not closed", want_step(closed_guard() | ~closed_guard())))


class ReadingTest(unittest.TestCase):
    def test_each_form(self):
        for line, step in STEPS:
            script = read_script(line, tongue=QUOTES)
            self.assertEqual(script, Script([step], QUOTES))
            self.assertEqual(step_text(step), line)
            self.assertEqual(script_text(script), line + "\n")
        for line, step in STEPS[5:-1]:
            self.assertEqual(read_script(text=line), Script([step]))

    def test_blanks_and_empty_lines(self):
        told = '\n   \nreplace"a"by"b"on  lines all\n\n  drop   lines not last  \n '
        self.assertEqual(script_text(read_script(told)), 'replace "a" by "b" on lines all\ndrop lines not last\n')
        for text in ("", "\n", "  ", " \n\n   \n"):
            self.assertEqual(read_script(text), Script([]))
            self.assertEqual(read_script(text, tongue=QUOTES), Script([], QUOTES))
        self.assertEqual(script_text(Script([])), "")

    def test_there_and_back(self):
        source = Random(431)
        for number in range(400):
            tongue = QUOTES if number > 150 else None
            script = any_script(source, 'ab"\\ \n(', 6, tongue)
            self.assertEqual(read_script(script_text(script), tongue=tongue), script)
            for step in script.steps:
                self.assertNotIn("\n", step_text(step=step))
        for _ in range(200):
            step = any_step(source, 'a"\\\n', True)
            self.assertEqual(read_script(step_text(step), tongue=QUOTES).steps, (step,))

    def test_the_tongue_by_name_only(self):
        with self.assertRaises(TypeError):
            read_script("", QUOTES)
        self.assertEqual(read_script("want closed", tongue=QUOTES).tongue, QUOTES)


class WrongPlacesTest(unittest.TestCase):
    def check(self, text, line, column):
        self.assertEqual(told_error(self, BadText, read_script, text), (line, column), text)

    def test_the_examples(self):
        for line, column in (
                ('replace "a"', 12), ('replace a by "b"', 9), ('replace "a" by "b" in', 22),
                ('replace "a" by "b" on lines', 28), ('replace "a" by "b" in code on lines all', 28),
                ("Drop lines all", 1), ("drop lines not not all", 16), ("drop lines from from all to all to all", 17),
                ('drop lines number "1"', 19), ("drop lines number 01", 20), ('drop lines has "a', 16),
                ('drop lines all "a', 16)):
            self.check(line, 1, column)
            self.check(f"\n \n{line}\n{line}x", 3, column)

    def test_wrong_places(self):
        for line, column in (
                ("x", 1), ('"a"', 1), ("7", 1), ("not", 1), ("replace", 8), ('replace "a" by', 15), ('replace "a" on', 13),
                ('replace "a" by 07', 16), ('replace "a\\t" by "b"', 11), ('replace "a" by "b" by', 20),
                ('replace "a" by "b" in all', 23), ('replace "a" by "b" in "code"', 23), ('replace "a" by "b" on', 22),
                ('replace "a" by "b" on line all', 23), ('replace "a" by "b" on lines all in code', 33),
                ('first "a" by "b" in code', 18), ('first "a" by "b" on lines all', 18), ('once "a" by "b" on lines all', 17),
                ("drop", 5), ("drop line all", 6), ("drop lines", 11), ('drop lines "a"', 12), ("drop lines all all", 16),
                ("keep all", 6), ('ahead "a" lines all', 11), ('ahead "a" on all', 14), ('above on lines all', 7),
                ('below "a', 7), ('behind "a" on lines', 20), ('strip "a" by "b"', 11), ("want", 5), ("want all", 6),
                ('want has "a" and', 17), ('want has "a" has', 14), ("want " + "not " * 7 + "closed", 30),
                ('want (closed', 13), ("drop lines short 1234567890", 27), ("\t", 1), (" \tdrop lines all", 2),
                ("drop\tlines all", 5), ("drop lines all;", 15), ("drop lines all\r", 15), ("#drop lines all", 1),
                ('replace "\u00e9" by "b"', 10), ('replace "a" by "' + chr(37) + '"', 17), ("\u00e9", 1)):
            self.check(line, 1, column)
            self.check("drop lines all\n" + line, 2, column)

    def test_the_first_wrong_line(self):
        self.check("drop lines number 7\n\nkeep all\ndrop", 3, 6)
        self.check('replace "abcdefg" by ""\n' * 9 + "x", 10, 1)
        self.check("want at most 99 of \"\"\nwant at most 100 sign", 2, 18)
        self.check("  \n" + "drop lines all\n" * 7 + '"', 9, 1)

    def test_against_all_sentences(self):
        tests = linetest_sentences()
        sentences = {("replace", ":quoted", "by", ":quoted", "in", kind) for kind in ("code", "quotes", "remarks")}
        sentences |= {(word, ":quoted", "by", ":quoted") for word in ("replace", "first", "once")}
        sentences |= {(word, "lines", *test) for word in ("drop", "keep") for test in tests}
        sentences |= {(word, ":quoted", "on", "lines", *test)
                      for word in ("ahead", "behind", "above", "below", "strip") for test in tests}
        sentences |= {("replace", ":quoted", "by", ":quoted", "on", "lines", *test) for test in tests}
        nexts, good = goings_on(sentences), 0
        for line in spoilt_lines(Random(432), sentences, 2500):
            if not line.strip(" "):
                continue
            column = wrong_column(nexts, line)
            if column is not None:
                self.check(line, 1, column)
                continue
            good += 1
            try:
                self.assertEqual(len(read_script(line, tongue=QUOTES).steps), 1)
            except (BadWord, BadNumber):
                pass
        self.assertGreater(good, 500)


class MakingTest(unittest.TestCase):
    def wrong(self, error, told, text, **more):
        self.assertEqual(told_error(self, error, read_script, text, **more), told, text)

    def test_errors_of_steps(self):
        for line, error, told in (
                ('replace "" by "abcdefg"', BadWord, ("old",)), ('replace "a" by "abcdefg"', BadWord, ("new",)),
                ('replace "\\n" by "\\n" on lines all', BadWord, ("old",)), ('first "" by ""', BadWord, ("old",)),
                ('replace "a" by "\\n" on lines all', BadWord, ("new",)), ('once "a" by "abcdefg"', BadWord, ("new",)),
                ('ahead "" on lines all', BadWord, ("new",)), ('above "a\\n" on lines all', BadWord, ("new",)),
                ('strip "\\n" on lines all', BadWord, ("old",)), ("drop lines short 41", BadNumber, ("short", 41)),
                ('keep lines is "abcdefg"', BadWord, ("argument",)), ("want at most 100 signs", BadNumber, ("most", 100))):
            self.wrong(error, told, line)
            self.wrong(error, told, f"drop lines all\n{line}\nfirst \"\" by \"\"")
            self.wrong(BadText, (2, 1), f"{line}\n7")

    def test_tests_and_guards_ahead_of_their_steps(self):
        for line in ('replace "" by "" on lines number 7', 'ahead "" on lines number 7', 'strip "\\n" on lines number 7',
                     'below "a\\n" on lines from number 7 to short 99', "want at most 99 lines number 7"):
            self.wrong(BadNumber, ("number", 7), line)
        self.wrong(BadWord, ("word",), 'want has "" or at most 100 signs')
        seven = " or ".join(["closed"] * 7)
        self.wrong(TooMany, ("parts", 7, 6), f'want {seven}\nfirst "" by ""')

    def test_line_by_line(self):
        self.wrong(BadWord, ("old",), 'first "" by ""\ndrop lines number 7')
        self.wrong(BadNumber, ("number", 7), 'drop lines number 7\nfirst "" by ""')
        self.wrong(BadNumber, ("number", 7), "drop lines all\n" * 6 + "drop lines number 7")

    def test_errors_of_the_script(self):
        self.wrong(TooMany, ("steps", 7, 6), "\n".join(["drop lines all", ""] * 7))
        self.assertEqual(len(read_script("drop lines all\n" * 6).steps), 6)
        kind = 'first "a" by "b"\nreplace "a" by "b" in code'
        self.wrong(NoTongue, (1,), kind)
        self.wrong(NoTongue, (0,), "want has \"a\" or closed")
        for tongue in (5, "", True, object()):
            self.wrong(BadWord, ("tongue",), kind, tongue=tongue)
        six = 'replace "a" by "abcdef"\n'
        self.assertEqual(read_script(six * 2).growth, 36)
        self.wrong(TooMany, ("growth", 72, 36), six * 2 + 'above "" on lines all')
        self.wrong(NoTongue, (3,), six * 3 + "want closed")
        self.wrong(TooMany, ("steps", 7, 6), "want closed\n" * 7, tongue=5)


if __name__ == "__main__":
    unittest.main()
