"""Tests of lines: [24] and [25]."""

import unittest
from itertools import product

from tests.support import told_error
from textworkshop.errors import BadNumber, BadWord
from textworkshop.linetests import other_test, plain_test, range_test
from textworkshop.signs import lines_of

PERCENT = chr(37)
PLAIN = [plain_test("all"), plain_test("last")] + [plain_test("number", k) for k in (1, 2, 6)] + [
    plain_test("short", k) for k in (0, 1)] + [
    plain_test(word, argument) for word in ("begins", "ends", "has", "is") for argument in ("", "a", "ab")]
TEXTS = [list(lines) for many in (1, 2, 3, 4) for lines in product(["", "a", "ba", "ab"], repeat=many)]
NO_WORDS = (None, 5, True, b"a", ["a"], ("a",), {}, "a\nb", "\n", "abcdefg", "\t", PERCENT, "\u00e9", object())
NO_NUMBERS = (None, "1", True, False, 1.0, [1], (1,), -1, {}, object())


def plain_truth(test, lines, place):
    line, told = lines[place], test.argument
    return {
        "all": lambda: True, "last": lambda: place == len(lines) - 1, "number": lambda: place == told - 1,
        "short": lambda: len(line) <= told, "begins": lambda: line[:len(told)] == told,
        "ends": lambda: told == "" or line[-len(told):] == told, "has": lambda: len(line.split(told)) > 1 if told else True,
        "is": lambda: line == told}[test.word]()


def plain_range(first, second, lines):
    """Line by line: the lines from one that begins a range up to one that ends it."""
    truths, place = [False] * len(lines), 0
    while place < len(lines):
        if plain_truth(first, lines, place):
            ends = [k for k in range(place + 1, len(lines)) if plain_truth(second, lines, k)]
            end = ends[0] if ends else len(lines) - 1
            truths[place:end + 1] = [True] * (end + 1 - place)
            place = end
        place += 1
    return tuple(truths)


class TruthsTest(unittest.TestCase):
    def test_plain_tests(self):
        for test in PLAIN:
            for lines in TEXTS:
                told = tuple(plain_truth(test, lines, place) for place in range(len(lines)))
                self.assertEqual(test.truths(lines), told, (test.word, test.argument, lines))
                self.assertEqual(other_test(test).truths(tuple(lines)), tuple(not truth for truth in told))
                self.assertEqual({type(truth) for truth in test.truths(lines)}, {bool})

    def test_ranges(self):
        for first, second in product(PLAIN[:8] + PLAIN[9:12], PLAIN):
            test = range_test(first, second)
            for lines in TEXTS[::3]:
                told = plain_range(first, second, lines)
                self.assertEqual(test.truths(lines), told, (first.word, second.word, lines))
                self.assertEqual(other_test(test).truths(lines), tuple(not truth for truth in told))

    def test_ranges_of_two_equal_tests(self):
        self.assertEqual(range_test(plain_test("all"), plain_test("all")).truths([""] * 3), (True, True, True))
        twos = range_test(plain_test("is", "a"), plain_test("is", "a"))
        self.assertEqual(twos.truths(["a", "b", "a", "b", "a", "a", "b"]), (True, True, True, False, True, True, False))
        last = range_test(plain_test("last"), plain_test("last"))
        self.assertEqual((last.truths(["", ""]), last.truths([""])), ((False, True), (True,)))

    def test_ranges_that_go_on_to_the_end(self):
        first = range_test(plain_test("number", 2), plain_test("number", 2))
        self.assertEqual(first.truths(["a"] * 4), (False, True, True, True))
        self.assertEqual(range_test(plain_test("number", 3), plain_test("number", 1)).truths([""] * 4),
                         (False, False, True, True))
        self.assertEqual(range_test(plain_test("last"), plain_test("all")).truths(["", ""]), (False, True))

    def test_the_next_range_begins_behind_the_end_of_one(self):
        pairs = range_test(plain_test("all"), plain_test("all"))
        self.assertEqual(pairs.truths(["a"] * 5), (True,) * 5)
        inner = range_test(plain_test("begins", "a"), plain_test("ends", "z"))
        self.assertEqual(inner.truths(["b", "az", "c", "z", "z", "az", "az"]),
                         (False, True, True, True, False, True, True))
        self.assertEqual(other_test(inner).truths(["b", "az", "c", "z", "z"]), (True, False, False, False, True))

    def test_lines_of_texts(self):
        self.assertEqual(plain_test("is", "").truths(lines_of("")), (True,))
        self.assertEqual(plain_test("last").truths(lines=lines_of("\n\n")), (False, False, True))
        self.assertEqual(plain_test("short", 40).truths(["a" * 40, "a" * 41]), (True, False))
        self.assertEqual(plain_test("number", 6).truths([""] * 7), (False,) * 5 + (True, False))


class MakingTest(unittest.TestCase):
    def test_words_of_plain_tests(self):
        for value in ("", "All", "from", "not", "alls", None, 5, True, ["all"], ("all",), b"all", {}, object()):
            self.assertEqual(told_error(self, BadWord, plain_test, value), ("test",))
            self.assertEqual(told_error(self, BadWord, plain_test, value, object()), ("test",))

    def test_words_that_are_passed(self):
        for word in ("begins", "ends", "has", "is"):
            for argument in ("", "a", "abcdef", "  ", '"\\', "~"):
                test = plain_test(word, argument)
                self.assertEqual((test.word, test.argument), (word, argument))
            for argument in NO_WORDS:
                self.assertEqual(told_error(self, BadWord, plain_test, word, argument), ("argument",))
            self.assertEqual(told_error(self, BadWord, plain_test, word), ("argument",))

    def test_numbers_at_their_bounds_and_beyond(self):
        for word, least, most in (("short", 0, 40), ("number", 1, 6)):
            for number in range(least, most + 1):
                self.assertEqual(plain_test(word, number).argument, number)
            for number in NO_NUMBERS + (least - 1, most + 1, 10 ** 50):
                self.assertEqual(told_error(self, BadNumber, plain_test, word, number), (word, number))
            self.assertEqual(told_error(self, BadNumber, plain_test, word), (word, None))

    def test_tests_without_an_argument(self):
        for word in ("all", "last"):
            self.assertEqual(plain_test(word, None), plain_test(word))
            for argument in ("", "a", 0, False, 1, [], ()):
                self.assertEqual(told_error(self, BadWord, plain_test, word, argument), ("argument",))

    def test_parts_of_ranges(self):
        good = plain_test("all")
        for value in (None, "all", 5, True, ("all",), other_test(good), range_test(good, good),
                      other_test(range_test(good, good)), object()):
            self.assertEqual(told_error(self, BadWord, range_test, value, good), ("first",))
            self.assertEqual(told_error(self, BadWord, range_test, good, value), ("second",))
            self.assertEqual(told_error(self, BadWord, range_test, value, value), ("first",))

    def test_only_tests_without_not_get_one(self):
        good = plain_test("all")
        for value in (None, "all", 5, True, ["all"], other_test(good), other_test(range_test(good, good)), object()):
            self.assertEqual(told_error(self, BadWord, other_test, value), ("test",))

    def test_attributes(self):
        def fields(test):
            return test.word, test.argument, test.first, test.second, test.negated

        one, two = plain_test(word="has", argument="a"), plain_test("number", 3)
        both = range_test(first=one, second=two)
        self.assertEqual(fields(one), ("has", "a", None, None, False))
        self.assertEqual(fields(plain_test("last")), ("last", None, None, None, False))
        self.assertEqual(fields(both), ("from", None, one, two, False))
        self.assertEqual(fields(other_test(test=both)), ("from", None, one, two, True))
        self.assertEqual(fields(other_test(two)), ("number", 3, None, None, True))
        self.assertEqual((one.negated, both.negated), (False, False))

    def test_equality(self):
        tests = PLAIN + [range_test(a, b) for a, b in product(PLAIN[:4], PLAIN[6:10])]
        tests += [other_test(test) for test in tests]
        for (here, one), (there, two) in product(enumerate(tests), repeat=2):
            self.assertEqual(one == two, here == there)
            self.assertEqual(one != two, here != there)
        self.assertEqual(plain_test("is", "a"), plain_test("is", "a"))
        self.assertEqual(other_test(range_test(PLAIN[0], PLAIN[1])), other_test(range_test(PLAIN[0], PLAIN[1])))
        for value in (None, "all", ("all", None), 5, object()):
            self.assertFalse(plain_test("all") == value)


if __name__ == "__main__":
    unittest.main()
