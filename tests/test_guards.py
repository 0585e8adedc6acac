"""Guards: [26] to [29]."""

import unittest
from itertools import product
from random import Random

from tests.support import any_guard, any_linetest, any_text, any_tongue, plain_kinds, texts_up_to, told_error
from textworkshop.errors import BadNumber, BadWord, NoTongue, TooMany
from textworkshop.guards import (
    Guard, and_guard, closed_guard, each_line_guard, kind_guard, lines_guard, not_guard, or_guard, order_guard,
    paired_guard, places_guard, signs_guard, some_line_guard, text_guard)
from textworkshop.linetests import other_test, plain_test, range_test
from textworkshop.tongues import Tongue

PERCENT = chr(37)
ALL, LAST = plain_test("all"), plain_test("last")
A, B, C, D = (text_guard("has", sign) for sign in "abcd")
CLOSED = closed_guard()
NO_TEXTS = (None, 5, True, b"a", ["a"], ("a",), {}, "\t", PERCENT, "a\u00e9", object(), A, ALL)
NO_WORDS = NO_TEXTS + ("", "abcdefg")
NO_TESTS = (None, "all", 5, True, ["all"], A, object())
NO_NUMBERS = (None, "1", True, False, 1.0, [1], (1,), {}, object(), -1)
NO_GUARDS = (None, "closed", 5, True, [A], (A,), ALL, object())
NO_TONGUES = ("", "quote ' to '", 5, True, False, [], (), object(), A)
KIND_WORDS = {"code": "c", "quotes": "q", "remarks": "r"}


def lines_with(test, text):
    return [truth for truth in test.truths(text.split("\n"))]


def plain_holds(guard, text, kinds, closed):
    """Whether a text keeps a guard, by words of its written form and sentence by sentence."""
    form, fields = guard.form, guard.fields
    if form in ("not", "and", "or"):
        truths = [plain_holds(part, text, kinds, closed) for part in guard.parts]
        return {"not": not truths[0], "and": all(truths), "or": any(truths)}[form]
    stretches = [(text[i:j], kinds[i:j]) for i in range(len(text) + 1) for j in range(i, len(text) + 1)]
    if form in ("begins", "ends", "has", "is"):
        word = fields[0]
        return {"begins": text[:len(word)] == word, "ends": text[len(text) - len(word):] == word and len(text) >= len(word),
                "has": word in [part for part, _ in stretches], "is": text == word}[form]
    if form == "places":
        return [part for part, _ in stretches].count(fields[0]) <= fields[1]
    if form == "signs":
        return len(text) <= fields[0]
    if form == "lines":
        return lines_with(fields[0], text).count(True) <= fields[1]
    if form in ("each line", "some line"):
        return (all if form == "each line" else any)(lines_with(fields[0], text))
    if form == "order":
        first, second = lines_with(fields[0], text), lines_with(fields[1], text)
        return not any(second[i] and first[j] for i in range(len(first)) for j in range(i + 1, len(first)))
    if form == "closed":
        return closed
    if form == "paired":
        opening, closing, most, kind = fields
        told = [s for s, k in zip(text, kinds) if kind is None or k == KIND_WORDS[kind]]
        depths = [told[:n].count(opening) - told[:n].count(closing) for n in range(len(told) + 1)]
        return min(depths) >= 0 and max(depths) <= most and depths[-1] == 0
    letter = KIND_WORDS[fields[1]] * len(fields[0])
    truths = [told == letter for part, told in stretches if part == fields[0]]
    return any(truths) if form == "kind has" else all(truths)


class HoldsTest(unittest.TestCase):
    def test_against_the_sentences(self):
        source = Random(261)
        for _ in range(150):
            guard = any_guard(source, "ab\n", False, source.choice([0, 0, 1, 2]))
            for text in texts_up_to("\nab", 4):
                self.assertEqual(guard.holds_of(text), plain_holds(guard, text, text, None), (guard.written, text))

    def test_against_the_sentences_with_tongues(self):
        source = Random(262)
        tongues = [Tongue("quote ' to '"), Tongue("remark // to line\nquote ' to ' escape /"), Tongue("")]
        tongues += [any_tongue(source, "'/", 2) for _ in range(5)]
        for number in range(100):
            guard = any_guard(source, "ab'/\n", True, source.choice([0, 0, 1, 2]))
            tongue = tongues[number - number // len(tongues) * len(tongues)]
            for text in [any_text(source, "aab''/\n", 7) for _ in range(80)]:
                kinds = plain_kinds(tongue.text, text)
                closed = plain_kinds(tongue.text, text + "\n")[-1] == "c"
                self.assertEqual(guard.holds_of(text=text, tongue=tongue), plain_holds(guard, text, kinds, closed),
                                 (guard.written, tongue.text, text))

    def test_places_that_overlap(self):
        self.assertEqual([places_guard("aa", most).holds_of("aaaa") for most in (2, 3)], [False, True])
        self.assertEqual([places_guard("aba", most).holds_of("ababa") for most in (1, 2)], [False, True])
        self.assertTrue(places_guard("\n\n", 0).holds_of("\n"))

    def test_empty_text_empty_word_and_empty_lines(self):
        empty = text_guard("is", "")
        self.assertEqual([empty.holds_of(""), empty.holds_of("\n"), empty.holds_of(" ")], [True, False, False])
        self.assertEqual([signs_guard(0).holds_of(""), signs_guard(0).holds_of("a")], [True, False])
        blank = plain_test("is", "")
        self.assertTrue(each_line_guard(blank).holds_of(""))
        self.assertTrue(lines_guard(blank, 1).holds_of("") and not lines_guard(blank, 1).holds_of("\n"))
        self.assertTrue(text_guard("has", "\n").holds_of("\n") and not text_guard("begins", "\na").holds_of("\n"))
        self.assertTrue(some_line_guard(LAST).holds_of("") and each_line_guard(LAST).holds_of("a"))
        self.assertFalse(each_line_guard(LAST).holds_of("a\n"))

    def test_order_of_lines(self):
        order = order_guard(plain_test("has", "a"), plain_test("has", "b"))
        for text, truth in (("a\na\nb\nb", True), ("ab", True), ("ab\nb", True), ("a\nab", True), ("ab\na", False),
                            ("b\n\na", False), ("b\nb", True), ("", True), ("a\nb\na", False)):
            self.assertEqual(order.holds_of(text), truth, text)
        self.assertEqual([order_guard(ALL, ALL).holds_of(text) for text in ("", "\n")], [True, False])

    def test_ranges(self):
        inner = range_test(plain_test("is", "a"), plain_test("is", "b"))
        self.assertTrue(lines_guard(inner, 2).holds_of("c\na\nb\nc"))
        self.assertFalse(lines_guard(inner, 2).holds_of("c\na\nc\nc"))
        self.assertTrue(each_line_guard(other_test(inner)).holds_of("b\nb"))

    def test_pairs_of_one_kind(self):
        quotes = Tongue("quote ' to '")
        code, inner, every = (paired_guard("a", "b", 1, kind) for kind in ("code", "quotes", None))
        for text, truths in (("a'b'b", (True, False, False)), ("'a'a'b'", (False, True, False)),
                             ("a'a'b'b'", (True, True, False)), ("", (True, True, True)), ("'ab'", (True, True, True))):
            self.assertEqual(tuple(guard.holds_of(text, quotes) for guard in (code, inner, every)), truths, text)
        marks = paired_guard("'", "x", 2, "quotes")
        self.assertEqual([marks.holds_of("''xx", quotes), marks.holds_of("'xx", quotes), marks.holds_of("'x'x", quotes)],
                         [False, False, False])

    def test_closed_and_the_newline_behind(self):
        line = Tongue("remark // to line\nremark /* to */")
        for text, truth in (("", True), ("//", True), ("/*", False), ("/*\n", False), ("/**/", True), ("/*/", False)):
            self.assertEqual(CLOSED.holds_of(text, line), truth)

    def test_errors_in_their_order(self):
        asking = A & (CLOSED | kind_guard("has", "a", "code"))
        for text in NO_TEXTS:
            for tongue in (None, 5):
                for guard in (asking, A):
                    self.assertEqual(told_error(self, BadWord, guard.holds_of, text, tongue), ("text",))
                    self.assertEqual(told_error(self, BadWord, guard.reasons, text, tongue), ("text",))
        for tongue in NO_TONGUES:
            for guard in (asking, A):
                self.assertEqual(told_error(self, BadWord, guard.holds_of, "a", tongue), ("tongue",))
                self.assertEqual(told_error(self, BadWord, guard.reasons, "", tongue=tongue), ("tongue",))

    def test_the_leaf_without_a_tongue(self):
        quoted = paired_guard("a", "b", 1, "quotes")
        for guard, number in ((CLOSED, 0), (~CLOSED, 0), (A & CLOSED, 1), ((A | B) & ~(C & quoted) & CLOSED, 3),
                              (CLOSED & quoted, 0), (A | (B | kind_guard("each", "a", "code")), 2)):
            self.assertEqual(told_error(self, NoTongue, guard.holds_of, "b"), (number,))
            self.assertEqual(told_error(self, NoTongue, guard.reasons, "a", None), (number,))
        self.assertTrue((A | paired_guard("a", "b", 1)).holds_of("a"))


class ReasonsTest(unittest.TestCase):
    def test_forms(self):
        self.assertEqual(A.reasons(text="a"), ((0, True),))
        self.assertEqual((~A).reasons("a"), ((0, True),))
        three = and_guard([A, B, C])
        self.assertEqual([three.reasons(text) for text in ("abc", "ac", "c", "a")],
                         [((0, True), (1, True), (2, True)), ((1, False),), ((0, False),), ((1, False),)])
        three = or_guard([A, B, C])
        self.assertEqual([three.reasons(text) for text in ("", "bc", "abc")],
                         [((0, False), (1, False), (2, False)), ((1, True),), ((0, True),)])
        deep = or_guard([A & B, ~(C & D), CLOSED])
        self.assertEqual(deep.reasons("acd", Tongue("")), ((4, True),))
        self.assertEqual(deep.reasons("acd(", tongue=Tongue("quote ( to )")), ((1, False), (2, True), (3, True), (4, False)))
        self.assertEqual(deep.reasons("abcd", Tongue("")), ((0, True), (1, True)))
        self.assertEqual(deep.reasons("ac", Tongue("")), ((3, False),))

    def test_enough_and_none_can_be_left_out(self):
        source = Random(291)
        for _ in range(60):
            guard = any_guard(source, "ab\n", False, 3)
            many = len(guard.leaves)
            if many > 7:
                continue
            for text in [any_text(source, "ab\n", 4) for _ in range(6)]:
                reasons = dict(guard.reasons(text))
                self.assertEqual(sorted(reasons), [number for number, _ in guard.reasons(text)])
                self.assertEqual(reasons, {k: guard.leaves[k].holds_of(text) for k in reasons})
                self.assertTrue(self.settles(guard, reasons, guard.holds_of(text)))
                for number in reasons:
                    less = {k: truth for k, truth in reasons.items() if k != number}
                    self.assertFalse(self.settles(guard, less, guard.holds_of(text)))

    def settles(self, guard, reasons, truth):
        """Whether the guard has a truth whatever the truths of the other leaves are."""
        choices = [[reasons[k]] if k in reasons else [True, False] for k in range(len(guard.leaves))]
        return all(self.joined(guard, list(truths)) == truth for truths in product(*choices))

    def joined(self, guard, truths):
        if not guard.parts:
            return truths.pop(0)
        told = [self.joined(part, truths) for part in guard.parts]
        return {"not": not told[0], "and": all(told), "or": any(told)}[guard.form]


class WrittenTest(unittest.TestCase):
    def test_leaves(self):
        inner = other_test(range_test(plain_test("has", "a"), LAST))
        for guard, written in (
                (text_guard("begins", "ab"), 'begins "ab"'), (text_guard("ends", "\n"), 'ends "\\n"'),
                (text_guard("has", '"\\n'), 'has "\\"\\\\n"'), (text_guard("is", ""), 'is ""'),
                (places_guard("a b", 9), 'at most 9 of "a b"'), (signs_guard(99), "at most 99 signs"),
                (lines_guard(inner, 0), 'at most 0 lines not from has "a" to last'),
                (each_line_guard(plain_test("short", 40)), "each line short 40"),
                (some_line_guard(other_test(ALL)), "some line not all"),
                (order_guard(plain_test("number", 2), inner), 'lines number 2 ahead of lines not from has "a" to last'),
                (paired_guard('"', "\\", 9), 'paired "\\"" "\\\\" within 9'),
                (paired_guard("(", ")", 1, "remarks"), 'paired "(" ")" within 1 in remarks'),
                (CLOSED, "closed"), (kind_guard("has", "a", "quotes"), 'has "a" in quotes'),
                (kind_guard("each", "\n\n", "code"), 'each "\\n\\n" in code')):
            self.assertEqual(guard.written, written)
            self.assertEqual((len(guard.leaves), guard.leaves[0].written), (1, written))
            self.assertEqual(guard.asks_kinds, " in " in written or written == "closed")

    def test_brackets(self):
        a, b, c = 'has "a"', 'has "b"', 'has "c"'
        for guard, written in (
                (~A, f"not {a}"), (~~A, f"not not {a}"), (~(A & B), f"not ({a} and {b})"), (~(A | B), f"not ({a} or {b})"),
                ((A & B) & C, f"({a} and {b}) and {c}"), (A & (B & C), f"{a} and ({b} and {c})"),
                ((A | B) & C, f"({a} or {b}) and {c}"), (A & ~B, f"{a} and not {b}"), (A | (B & C), f"{a} or {b} and {c}"),
                ((A | B) | C, f"({a} or {b}) or {c}"), (A | ~(B | C), f"{a} or not ({b} or {c})"),
                (and_guard([A, B, C]), f"{a} and {b} and {c}"), (or_guard((A, B, C)), f"{a} or {b} or {c}"),
                (~(~(A & B) | C), f"not (not ({a} and {b}) or {c})")):
            self.assertEqual(guard.written, written)

    def test_leaves_from_the_left(self):
        guard = (A | ~(B & C)) & (D | A)
        self.assertEqual(guard.leaves, (A, B, C, D, A))
        self.assertIsInstance(guard.leaves, tuple)
        self.assertEqual([guard.asks_kinds, (guard & CLOSED).asks_kinds, (~CLOSED).asks_kinds], [False, True, True])

    def test_equality_by_what_is_written(self):
        self.assertEqual(and_guard((A, B)), and_guard([text_guard("has", "a"), text_guard("has", "b")]))
        self.assertEqual(A & B, and_guard((A, B)))
        self.assertEqual(A | B, or_guard((A, B)))
        self.assertEqual(~A, not_guard(A))
        told = [A, B, ~A, A & B, B & A, A | B, (A & B) & C, A & (B & C), and_guard([A, B, C]), text_guard("is", "a"),
                paired_guard("a", "b", 1), paired_guard("a", "b", 1, "code"), CLOSED]
        for (here, one), (there, two) in product(enumerate(told), repeat=2):
            self.assertEqual((one == two, one != two), (here == there, here != there))
        for value in (None, 'has "a"', 5, ALL, object()):
            self.assertFalse(A == value)
            self.assertTrue(A != value)


class MakingTest(unittest.TestCase):
    def wrong(self, error, told, call, *args, **more):
        self.assertEqual(told_error(self, error, call, *args, **more), told)

    def test_text_guards(self):
        for how in ("begins", "ends", "has", "is"):
            for word in ("a", "abcdef", "\n", "\n\n\n\n\n\n", '"\\'):
                self.assertEqual(text_guard(how=how, word=word).holds_of(word), True)
            for word in NO_WORDS[:-2] + ("abcdefg",):
                self.wrong(BadWord, ("word",), text_guard, how, word)
            if how != "is":
                self.wrong(BadWord, ("word",), text_guard, how, "")
        for how in (None, "Has", "", "each", 5, True, ["has"], ("has",), {}, object(), A):
            self.wrong(BadWord, ("how",), text_guard, how, None)

    def test_places_guards(self):
        for most in range(10):
            self.assertEqual(places_guard(word="a", most=most).written, f'at most {most} of "a"')
        for most in NO_NUMBERS + (10, 99, 10 ** 40):
            self.wrong(BadNumber, ("most", most), places_guard, "a", most)
        for word in NO_WORDS:
            self.wrong(BadWord, ("word",), places_guard, word, 1)
            self.wrong(BadWord, ("word",), places_guard, word, 10)

    def test_signs_guards(self):
        for most in (0, 9, 10, 98, 99):
            self.assertTrue(signs_guard(most=most).holds_of("a" * most))
            self.assertFalse(signs_guard(most).holds_of("a" * (most + 1)))
        for most in NO_NUMBERS + (100, 10 ** 40):
            self.wrong(BadNumber, ("most", most), signs_guard, most)

    def test_lines_guards(self):
        for most in (0, 1, 9):
            self.assertTrue(lines_guard(test=ALL, most=most).holds_of("\n" * (most - 1)) or most == 0)
            self.assertFalse(lines_guard(ALL, most).holds_of("\n" * most))
        for most in NO_NUMBERS + (10, 99):
            self.wrong(BadNumber, ("most", most), lines_guard, LAST, most)
        for test in NO_TESTS:
            self.wrong(BadWord, ("test",), lines_guard, test, 1)
            self.wrong(BadWord, ("test",), lines_guard, test, 10)

    def test_guards_of_tests(self):
        source = Random(271)
        for test in [any_linetest(source, "ab") for _ in range(10)]:
            self.assertEqual((each_line_guard(test=test).fields, some_line_guard(test=test).fields), ((test,), (test,)))
            self.assertEqual(order_guard(first=test, second=ALL).fields, (test, ALL))
        for test in NO_TESTS:
            self.wrong(BadWord, ("test",), each_line_guard, test)
            self.wrong(BadWord, ("test",), some_line_guard, test)
            self.wrong(BadWord, ("first",), order_guard, test, test)
            self.wrong(BadWord, ("first",), order_guard, test, ALL)
            self.wrong(BadWord, ("second",), order_guard, ALL, test)

    def test_paired_guards(self):
        for depth in range(1, 10):
            guard = paired_guard(opening="(", closing=" ", depth=depth, kind="code")
            self.assertEqual(guard.written, f'paired "(" " " within {depth} in code')
        for depth in NO_NUMBERS + (0, 10, 10 ** 40):
            self.wrong(BadNumber, ("depth", depth), paired_guard, "(", ")", depth)
            self.wrong(BadNumber, ("depth", depth), paired_guard, "(", ")", depth, "no kind")
        for sign in (None, 5, True, "", "ab", "\n", "\t", PERCENT, ["a"], b"a", object()):
            self.wrong(BadWord, ("opening",), paired_guard, sign, sign, 0, 5)
            self.wrong(BadWord, ("opening",), paired_guard, sign, "a", 1)
            self.wrong(BadWord, ("closing",), paired_guard, "a", sign, 0, 5)
            self.wrong(BadWord, ("closing",), paired_guard, "a", sign, 1)
        self.wrong(BadWord, ("closing",), paired_guard, "a", "a", 1)
        for kind in ("", "c", "Code", "quote", 5, True, ["code"], ("code",), {}, object()):
            self.wrong(BadWord, ("kind",), paired_guard, "a", "b", 1, kind)
        for kind in (None, "code", "quotes", "remarks"):
            self.assertEqual(paired_guard("a", "b", 1, kind).asks_kinds, kind is not None)

    def test_kind_guards(self):
        for how, kind in product(("has", "each"), ("code", "quotes", "remarks")):
            self.assertEqual(kind_guard(how=how, word="a\n", kind=kind).written, f'{how} "a\\n" in {kind}')
        for how in (None, "", "begins", "is", "Each", 5, ["has"], {}, object()):
            self.wrong(BadWord, ("how",), kind_guard, how, "", "")
        for word in NO_WORDS:
            self.wrong(BadWord, ("word",), kind_guard, "has", word, "")
            self.wrong(BadWord, ("word",), kind_guard, "each", word, "code")
        for kind in (None, "", "c", "Code", "quote", 5, True, ["code"], {}, object()):
            self.wrong(BadWord, ("kind",), kind_guard, "has", "a", kind)

    def test_not_guards(self):
        for part in NO_GUARDS:
            self.wrong(BadWord, ("part",), not_guard, part)
        guard = A
        for _ in range(6):
            guard = not_guard(part=guard)
        self.assertEqual(guard.written, "not " * 6 + 'has "a"')
        self.wrong(TooMany, ("levels", 7, 6), not_guard, guard)
        self.wrong(TooMany, ("levels", 7, 6), lambda: ~guard)

    def test_lists_and_tuples_of_parts(self):
        for join, joint in ((and_guard, " and "), (or_guard, " or ")):
            for parts in (None, 5, True, "ab", {}, {"a": A, "b": B}, A, object(), b"ab"):
                self.wrong(BadWord, ("parts",), join, parts)
            for many in (0, 1):
                self.wrong(BadNumber, ("parts", many), join, [A] * many)
                self.wrong(BadNumber, ("parts", many), join, (None,) * many)
            for many in range(2, 7):
                self.assertEqual(join(parts=[A] * many).written, joint.join([A.written] * many))
                self.assertEqual(join((A,) * many), join([A] * many))
            for many in (7, 8, 13):
                self.wrong(TooMany, ("parts", many, 6), join, [A] * many)
                self.wrong(TooMany, ("parts", many, 6), join, (None,) * many)
            for entry in NO_GUARDS:
                self.wrong(BadWord, ("parts",), join, [A, entry])
                self.wrong(BadWord, ("parts",), join, (entry, A, A))

    def test_leaves_and_levels_in_their_order(self):
        six = and_guard([A] * 6)
        self.assertEqual(len(or_guard([six, six]).leaves), 12)
        self.wrong(TooMany, ("leaves", 13, 12), or_guard, [six, six, A])
        self.wrong(TooMany, ("leaves", 13, 12), and_guard, (A, or_guard([six, six])))
        self.wrong(TooMany, ("leaves", 36, 12), or_guard, [six] * 6)
        self.wrong(BadWord, ("parts",), and_guard, [six, six, six, None])
        deep = A
        for _ in range(6):
            deep = ~deep
        self.wrong(TooMany, ("levels", 7, 6), and_guard, [A, deep])
        self.wrong(TooMany, ("levels", 7, 6), or_guard, [deep, A])
        self.wrong(TooMany, ("leaves", 13, 12), and_guard, [deep, six, six])
        five = ~~~~A
        self.assertEqual(len((A & ~five).leaves), 2)
        self.assertEqual(~(A & five), not_guard(and_guard([A, five])))

    def test_operators(self):
        self.assertIsInstance(A & B, Guard)
        six = and_guard([A] * 6)
        self.wrong(TooMany, ("leaves", 13, 12), lambda: six & or_guard([six, A]))
        self.wrong(TooMany, ("leaves", 13, 12), lambda: (six | A) | six)
        self.assertEqual(((A & B) | ~C).written, 'has "a" and has "b" or not has "c"')

    def test_a_list_that_is_changed_behind_the_call(self):
        parts = [A, B]
        guard = and_guard(parts)
        parts.append(C)
        parts[0] = D
        self.assertEqual((guard, guard.leaves), (A & B, (A, B)))
        self.assertEqual(parts, [D, B, C])


if __name__ == "__main__":
    unittest.main()
