"""Texts of line tests: [42], with [21] and [23]."""

import unittest
from itertools import product
from random import Random

from tests.support import any_linetest, goings_on, linetest_sentences, spoilt_lines, told_error, wrong_column
from textworkshop.errors import BadNumber, BadText, BadWord
from textworkshop.linetests import other_test, plain_test, range_test
from textworkshop.linetesttexts import linetest_text, read_linetest
from textworkshop.signs import all_signs

LINE_SIGNS = all_signs().replace("\n", "")


class ReadingTest(unittest.TestCase):
    def test_each_form(self):
        for line, test in (
                ("all", plain_test("all")), ("last", plain_test("last")), ("short 0", plain_test("short", 0)),
                ("short 40", plain_test("short", 40)), ("number 1", plain_test("number", 1)),
                ("number 6", plain_test("number", 6)), ('begins "a b"', plain_test("begins", "a b")),
                ('ends ""', plain_test("ends", "")), ('has "\\"\\\\"', plain_test("has", '"\\')),
                ('is "not"', plain_test("is", "not"))):
            self.assertEqual(read_linetest(line), test)
            self.assertEqual(read_linetest(line="not " + line), other_test(test))
            self.assertEqual(read_linetest("from all to " + line), range_test(plain_test("all"), test))
            self.assertEqual(read_linetest(f"not from {line} to last"),
                             other_test(range_test(test, plain_test("last"))))
            for told in (line, "not " + line, f"from {line} to {line}", f"not from all to {line}"):
                self.assertEqual(linetest_text(read_linetest(told)), told)

    def test_blanks_mean_nothing(self):
        self.assertEqual(linetest_text(read_linetest('  not  from begins"a"to   short 3 ')),
                         'not from begins "a" to short 3')

    def test_there_and_back(self):
        source = Random(421)
        for _ in range(300):
            test = any_linetest(source, "ab\"\\ n(~")
            self.assertEqual(read_linetest(linetest_text(test)), test)
        for sign in LINE_SIGNS:
            test = plain_test("has", sign + "n" + sign)
            self.assertEqual(read_linetest(linetest_text(test=test)), test)


class WrongPlacesTest(unittest.TestCase):
    def check(self, line, column):
        self.assertEqual(told_error(self, BadText, read_linetest, line), (1, column), line)

    def test_wrong_places(self):
        for line, column in (
                ("", 1), ("  ", 3), ("not", 4), ("not not all", 5), ("All", 1), ("alls", 1), ("all all", 5),
                ("all)", 4), ("(all)", 1), ('all ""', 5), ("has", 4), ("has a", 5), ("has 07", 5), ("has 7", 5),
                ('has "a', 5), ('has "a\\t"', 7), ('has "a\tb', 7), ('has "a" "b"', 9), ("number", 7),
                ("number 07", 9), ("number 1234567890", 17), ('number "1"', 8), ('number "1', 8), ("number -1", 8),
                ("short 1 2", 9), ("short 1 02", 9), ("from", 5), ("from all", 9), ("from all last", 10),
                ("from all to", 12), ("from not all to all", 6), ("from all to not all", 13),
                ("from from all to all to all", 6), ("not from all to all to all", 21), ("to all", 1),
                ("last number", 6), ("is \"\" ;", 7), ("short a", 7)):
            self.check(line, column)

    def test_against_all_sentences(self):
        sentences = linetest_sentences()
        nexts, good = goings_on(sentences), 0
        for line in spoilt_lines(Random(422), sentences, 1500):
            column = wrong_column(nexts, line)
            if column is not None:
                self.check(line, column)
                continue
            good += 1
            try:
                self.assertIsNotNone(read_linetest(line))
            except (BadWord, BadNumber):
                pass
        self.assertGreater(good, 300)


class MakingTest(unittest.TestCase):
    def test_errors_of_making(self):
        for line, error, told in (
                ("short 41", BadNumber, ("short", 41)), ("number 0", BadNumber, ("number", 0)),
                ("number 7", BadNumber, ("number", 7)), ("not number 999999999", BadNumber, ("number", 999999999)),
                ('is "abcdefg"', BadWord, ("argument",)), ('has "a\\nb"', BadWord, ("argument",))):
            self.assertEqual(told_error(self, error, read_linetest, line), told)

    def test_errors_from_the_left_and_behind_the_form(self):
        wrong = (("short 41", BadNumber, ("short", 41)), ("number 7", BadNumber, ("number", 7)),
                 ('has "\\n"', BadWord, ("argument",)))
        for (one, error, told), (two, _, _) in product(wrong, repeat=2):
            self.assertEqual(told_error(self, error, read_linetest, f"from {one} to {two}"), told)
            self.assertEqual(told_error(self, error, read_linetest, f"not from all to {one}"), told)
            self.assertEqual(told_error(self, BadText, read_linetest, f"from {one} to {two} x"),
                             (1, len(f"from {one} to {two} x")))
            self.assertEqual(told_error(self, BadText, read_linetest, f"from {one}"), (1, len(one) + 6))


if __name__ == "__main__":
    unittest.main()
