"""Texts of guards: [30], with [21] and [23]."""

import unittest
from random import Random

from tests.support import any_guard, goings_on, linetest_sentences, spoilt_lines, told_error, wrong_column
from textworkshop.errors import BadNumber, BadText, BadWord, TooMany
from textworkshop.guards import (
    Guard, and_guard, closed_guard, each_line_guard, kind_guard, lines_guard, not_guard, or_guard, order_guard,
    paired_guard, places_guard, signs_guard, some_line_guard, text_guard)
from textworkshop.guardtexts import read_guard
from textworkshop.linetests import other_test, plain_test

ALL, LAST = plain_test("all"), plain_test("last")
A, B, C, D = (text_guard("has", sign) for sign in "abcd")


class ReadingTest(unittest.TestCase):
    def test_each_leaf(self):
        for text, guard in (
                ('begins "a"', text_guard("begins", "a")), ('ends "\\n"', text_guard("ends", "\n")),
                ('has "abcdef"', text_guard("has", "abcdef")), ('is ""', text_guard("is", "")),
                ('at most 0 of "a"', places_guard("a", 0)), ("at most 99 signs", signs_guard(99)),
                ("at most 9 lines last", lines_guard(LAST, 9)), ("each line all", each_line_guard(ALL)),
                ("some line not last", some_line_guard(other_test(LAST))),
                ("lines all ahead of lines last", order_guard(ALL, LAST)),
                ('paired "(" ")" within 3', paired_guard("(", ")", 3)),
                ('paired "a" "b" within 9 in code', paired_guard("a", "b", 9, "code")), ("closed", closed_guard()),
                ('has "a" in quotes', kind_guard("has", "a", "quotes")),
                ('each "a" in remarks', kind_guard("each", "a", "remarks"))):
            self.assertEqual(read_guard(text), guard)
            self.assertEqual(read_guard(text=f"not {text}"), not_guard(guard))
            self.assertEqual(read_guard(f"( {text})and {text}"), and_guard([guard, guard]))
            self.assertEqual(read_guard(f"{text} or{text.join(['(', ')'])}"), or_guard([guard, guard]))

    def test_joints_and_brackets(self):
        a, b, c, d = (f'has "{sign}"' for sign in "abcd")
        for text, guard in (
                (f"{a} and {b} and {c}", and_guard([A, B, C])), (f"{a} or {b} or {c}", or_guard([A, B, C])),
                (f"{a} and ({b} and {c})", and_guard([A, and_guard([B, C])])),
                (f"({a} and {b}) and {c}", and_guard([and_guard([A, B]), C])),
                (f"(({a} and {b}))", and_guard([A, B])), (f"(({a}) and (({b})))", and_guard([A, B])),
                (f"{a} or {b} and {c} or {d}", or_guard([A, and_guard([B, C]), D])),
                (f"({a} or {b}) and {c}", and_guard([or_guard([A, B]), C])),
                (f"not {a} and {b}", and_guard([not_guard(A), B])),
                (f"not ({a} and {b}) or {c}", or_guard([not_guard(and_guard([A, B])), C])),
                (f"not not({a})", not_guard(not_guard(A)))):
            self.assertEqual(read_guard(text), guard)

    def test_there_and_back(self):
        source = Random(301)
        for _ in range(400):
            guard = any_guard(source, 'ab"\\\n (', True, source.choice([0, 1, 2, 3]))
            read = read_guard(guard.written)
            self.assertEqual(read, guard)
            self.assertEqual(read.leaves, guard.leaves)

    def test_six_levels_there_and_back(self):
        guard = A
        for number in range(6):
            guard = [not_guard, lambda g: and_guard([B, g]), lambda g: or_guard([g, C])][number - number // 3 * 3](guard)
        self.assertEqual(read_guard(guard.written), guard)
        six = and_guard([A] * 6)
        self.assertEqual(read_guard(or_guard([six, six]).written), or_guard([six, six]))


class WrongPlacesTest(unittest.TestCase):
    def check(self, text, column):
        self.assertEqual(told_error(self, BadText, read_guard, text), (1, column), text)

    def test_wrong_places(self):
        for text, column in (
                ("", 1), ("   ", 4), ("not", 4), ("(", 2), ("()", 2), (")", 1), ("and", 1), ("closed and", 11),
                ("closed or or closed", 11), ("closed closed", 8), ("closed)", 7), ("(closed", 8), ("(closed))", 9),
                ("(closed or)", 11), ("(closed not closed)", 9), ("closed and not", 15), ("Closed", 1), ('"a"', 1), ("7", 1),
                ("has", 4), ("has a", 5), ("has 07", 5), ('has "a', 5), ('has "a\\b"', 7), ('has "a" in', 11),
                ('has "a" in all', 12), ('has "a" of code', 9), ('has "a" in code in code', 17), ('begins "a" in code', 12),
                ('is "" in code', 7), ('ends "a', 6), ("at", 3), ("at 7", 4), ("at most", 8), ("at most a", 9),
                ("at most 07 signs", 10), ("at most 1234567890 signs", 18), ("at most 7", 10), ("at most 7 sign", 11),
                ("at most 7 07", 11), ('at most 7 of', 13), ("at most 7 of 7", 14), ('at most 7 of "a\\c"', 16),
                ("at most 7 lines", 16), ("at most 7 lines not not all", 21), ('at most 7 "a"', 11),
                ("each", 5), ("each lines", 6), ('each "a"', 9), ('each "a" of code', 10), ('each "a" in 7', 13),
                ("each 07", 6), ('each "a', 6), ('each "a\\e" in code', 8), ("each line", 10), ("each line x", 11),
                ("each line number 07", 19), ("some", 5), ("some lines all", 6), ('some "a"', 6), ("some line", 10),
                ("line all", 1), ("lines", 6), ("lines all", 10), ("lines all behind", 11), ("lines all ahead", 16),
                ("lines all ahead lines", 17), ("lines all ahead of", 19), ("lines all ahead of all", 20),
                ("lines all ahead of lines", 25), ("paired", 7), ("paired ( )", 8), ('paired "a"', 11), ('paired "a" b', 12),
                ('paired "a" "b', 12), ('paired "a" "b" in', 16), ('paired "a" "b" within', 22),
                ('paired "a" "b" within "1"', 23), ('paired "a" "b" within 00', 24), ('paired "a" "b" within 1 of', 25),
                ('paired "a" "b" within 1 in', 27), ('paired "a" "b" within 1 in code 1', 33), ("closed in code", 8),
                ("closed; closed", 7), ("not has \"a\" 01", 13), ("closed and (closed or closed", 29),
                ("(closed) (closed)", 10), ("each line all all", 15), ("\t", 1), ("closed\tand closed", 7)):
            self.check(text, column)

    def test_the_seventh_not_or_bracket(self):
        for ahead in ("not " * 6, "(" * 6, "not(not(not(", "( not " * 3):
            self.check(ahead + "not closed", len(ahead) + 1)
            self.check(ahead + "(closed)", len(ahead) + 1)
            self.assertIsInstance(read_guard(ahead + "closed" + ")" * ahead.count("(")), Guard)
        # A not is open until the end of the ONE behind it, a bracket until its end.
        self.assertIsInstance(read_guard("not not not not not closed and " * 5 + "closed"), Guard)
        self.assertIsInstance(read_guard("(((((closed and (closed) and not closed and (closed))))))"), Guard)
        self.check("(((((closed and (not closed))))))", 18)
        self.check("not not not not not (closed and not closed)", 33)
        self.check("not not not not not not closed and ((((((not closed))))))", 42)

    def test_the_not_of_a_line_test_does_not_count(self):
        text = "((((((each line not all and some line not from all to last))))))"
        self.assertEqual(len(read_guard(text).leaves), 2)
        self.check("((((((each line not all and not some line not all))))))", 29)
        self.assertIsInstance(read_guard("not " * 6 + "lines not all ahead of lines not all"), Guard)

    def test_against_all_sentences(self):
        tests = linetest_sentences()
        short = sorted(test for test in tests if len(test) < 4)
        kinds = ("code", "quotes", "remarks")
        leaves = [(word, ":quoted") for word in ("begins", "ends", "has", "is")] + [("closed",)]
        leaves += [("at", "most", ":number", "of", ":quoted"), ("at", "most", ":number", "signs")]
        leaves += [("at", "most", ":number", "lines", *test) for test in tests]
        leaves += [("each", "line", *test) for test in tests] + [("some", "line", *test) for test in tests]
        leaves += [("lines", *one, "ahead", "of", "lines", *two) for one in short for two in short]
        pair = ("paired", ":quoted", ":quoted", "within", ":number")
        leaves += [pair] + [(*pair, "in", kind) for kind in kinds]
        leaves += [(how, ":quoted", "in", kind) for how in ("has", "each") for kind in kinds]
        joined = set(leaves) | {("not", *leaf) for leaf in leaves}
        nexts = goings_on(joined | {("not", "("), ("(",)} | {(*leaf, joint) for leaf in joined for joint in ("and", "or")})
        good = 0
        for line in spoilt_lines(Random(302), joined, 1500):
            words = line.replace('"', " ").split()
            if {"and", "or", "(", ")"} & set(words) or "not not" in " ".join(words):
                continue
            if {"lines", "from"} <= set(words) and "most" not in words:
                continue
            column = wrong_column(nexts, line)
            if column is not None:
                self.check(line, column)
                continue
            good += 1
            try:
                self.assertIsInstance(read_guard(line), Guard)
            except (BadWord, BadNumber):
                pass
        self.assertGreater(good, 100)


class MakingTest(unittest.TestCase):
    def wrong(self, error, told, text):
        self.assertEqual(told_error(self, error, read_guard, text), told, text)

    def test_errors_of_leaves(self):
        for text, error, told in (
                ('has ""', BadWord, ("word",)), ('is "abcdefg"', BadWord, ("word",)), ('begins "abcdefg"', BadWord, ("word",)),
                ('at most 10 of ""', BadWord, ("word",)), ('at most 10 of "a"', BadNumber, ("most", 10)),
                ("at most 100 signs", BadNumber, ("most", 100)), ("at most 10 lines all", BadNumber, ("most", 10)),
                ('paired "" "" within 0', BadWord, ("opening",)), ('paired "a" "a" within 0', BadWord, ("closing",)),
                ('paired "a" "b" within 10', BadNumber, ("depth", 10)), ('paired "a" "b" within 0', BadNumber, ("depth", 0)),
                ('paired "\\n" "b" within 1', BadWord, ("opening",)), ('paired "a" "bc" within 1', BadWord, ("closing",)),
                ('has "" in code', BadWord, ("word",)), ('each "abcdefg" in code', BadWord, ("word",)),
                ('each line has "a\\n"', BadWord, ("argument",)), ("some line number 7", BadNumber, ("number", 7))):
            self.wrong(error, told, text)
            self.wrong(error, told, f"closed and not ({text} or at most 10 signs)")
            self.assertEqual(told_error(self, BadText, read_guard, text + " x"), (1, len(text) + 2))

    def test_line_tests_ahead_of_their_guards(self):
        self.wrong(BadNumber, ("short", 41), "at most 10 lines short 41")
        self.wrong(BadNumber, ("short", 41), "lines short 41 ahead of lines number 7")
        self.wrong(BadNumber, ("number", 7), "lines all ahead of lines number 7")

    def test_parts_in_the_order_in_which_they_end(self):
        bad, worse = 'has ""', "at most 100 signs"
        self.wrong(BadWord, ("word",), f"{bad} and {worse}")
        self.wrong(BadNumber, ("most", 100), f"{worse} and {bad}")
        seven = " and ".join(["closed"] * 7)
        self.wrong(TooMany, ("parts", 7, 6), seven)
        self.wrong(TooMany, ("parts", 7, 6), f"({seven}) or {bad}")
        self.wrong(TooMany, ("parts", 7, 6), f"{seven} or {bad}")
        self.wrong(BadWord, ("word",), f"{bad} or {seven}")
        self.wrong(BadWord, ("word",), f"{seven} and {bad}")
        self.wrong(TooMany, ("parts", 8, 6), seven.replace("and", "or") + " or closed")
        six = "(" + " and ".join(["closed"] * 6) + ")"
        self.wrong(TooMany, ("leaves", 18, 12), f"{six} or {six} or {six}")
        self.wrong(BadNumber, ("most", 100), f"{six} or {six} or {six} or {worse}")
        self.wrong(TooMany, ("leaves", 13, 12), f"({six} or {six} and closed) and ({bad})")
        self.wrong(TooMany, ("leaves", 18, 12), f"not ({six} and {six} and {six}) and ({bad})")

    def test_too_many_levels(self):
        self.wrong(TooMany, ("levels", 7, 6), "not not not not not (closed and closed or closed)")
        deep = "closed"
        for _ in range(4):
            deep = f"({deep} and closed or closed)"
        self.wrong(TooMany, ("levels", 7, 6), deep)
        self.wrong(TooMany, ("levels", 7, 6), f'{deep} and has ""')


if __name__ == "__main__":
    unittest.main()
