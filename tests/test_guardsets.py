"""Guards for all texts: [31] to [33]."""

import unittest
from itertools import product
from random import Random

from tests.support import any_guard, any_leaf, any_linetest, any_tongue, texts_up_to, told_error, tongue_of_weight
from textworkshop.errors import BadWord, NoTongue, TooHeavy
from textworkshop.guards import and_guard, closed_guard, not_guard, or_guard, signs_guard, text_guard
from textworkshop.guardsets import (
    clashing_guards, guard_set, guard_weight, implied_text, least_rest, linetest_weight, lost_place, needless_guards,
    parting_text)
from textworkshop.guardtexts import read_guard
from textworkshop.linetests import other_test, range_test
from textworkshop.linetesttexts import linetest_text, read_linetest
from textworkshop.textsets import all_texts
from textworkshop.tongues import Tongue

A, B, C = (text_guard("has", sign) for sign in "abc")
NO_TEXTS = (None, 5, True, b"a", ["a"], ("a",), {}, "\t", chr(37), "a\u00e9", object(), A)
# Weights 2500, 2501 and 2500 again, of leaves without kinds.
FULL = and_guard([signs_guard(48), signs_guard(48)])
ABOVE = and_guard([signs_guard(39), signs_guard(59)])


class WeightTest(unittest.TestCase):
    def test_line_tests(self):
        for line, weight in (
                ("all", 1), ("last", 1), ("number 1", 2), ("number 6", 7), ("short 0", 2), ("short 40", 42),
                ('begins ""', 2), ('begins "ab"', 4), ('is ""', 2), ('is "abcdef"', 8), ('ends ""', 1), ('ends "ab"', 3),
                ('has ""', 1), ('has "abcdef"', 7), ("from all to last", 2), ('from number 2 to has "a"', 12),
                ("from short 40 to short 40", 3528)):
            self.assertEqual(linetest_weight(read_linetest(line)), weight)
            self.assertEqual(linetest_weight(test=other_test(read_linetest(line))), weight)

    def test_leaves(self):
        tongue = tongue_of_weight(7)
        for text, weight, factor in (
                ('begins "ab"', 4, 1), ('is ""', 2, 1), ('is "ab"', 4, 1), ('ends "ab"', 3, 1), ('has "abc"', 4, 1),
                ('at most 0 of "ab"', 3, 1), ('at most 9 of "abc"', 31, 1), ("at most 0 signs", 2, 1),
                ("at most 99 signs", 101, 1), ("at most 0 lines all", 2, 1), ("at most 9 lines short 3", 51, 1),
                ("each line last", 2, 1), ("each line from all to last", 3, 1), ("some line short 2", 5, 1),
                ('lines number 2 ahead of lines has "ab"', 19, 1), ("lines all ahead of lines all", 3, 1),
                ('paired "a" "b" within 1', 3, 1), ('paired "a" "b" within 9', 11, 1), ("closed", 1, 7),
                ('has "ab" in code', 3, 7), ('each "a" in code', 2, 7), ('each "abc" in quotes', 7, 7),
                ('each "abcdef" in remarks', 22, 7), ('paired "a" "b" within 9 in code', 11, 7)):
            guard = read_guard(text)
            self.assertEqual(guard_weight(guard, tongue), weight * factor, text)
            self.assertEqual(guard_weight(guard=not_guard(guard), tongue=tongue), weight * factor)
            if factor == 1:
                self.assertEqual(guard_weight(guard), weight)

    def test_joined_guards(self):
        tongue = tongue_of_weight(3)
        guard = read_guard('not (has "a" or closed) and at most 3 signs and each "a" in code')
        self.assertEqual(guard_weight(guard, tongue), 2 * 3 * 5 * 6)
        self.assertEqual(guard_weight(and_guard([A, A, A])), 8)
        self.assertEqual(guard_weight(or_guard([A, B & C])), 8)

    def test_without_a_tongue(self):
        for call in (guard_weight, guard_set):
            self.assertEqual(told_error(self, NoTongue, call, A & ~closed_guard()), (1,))
            self.assertEqual(told_error(self, NoTongue, call, and_guard([ABOVE, ABOVE, closed_guard()])), (4,))

    def test_weights_at_2500_and_above(self):
        self.assertEqual(guard_weight(FULL), 2500)
        self.assertEqual(guard_set(guard=FULL), guard_set(signs_guard(48)))
        self.assertEqual(guard_weight(ABOVE), 2501)
        self.assertEqual(told_error(self, TooHeavy, guard_set, ABOVE), (2501,))
        self.assertEqual(told_error(self, TooHeavy, guard_set, ~ABOVE), (2501,))
        self.assertEqual(told_error(self, TooHeavy, guard_set, A & ABOVE), (5002,))
        order = read_guard("lines short 31 ahead of lines short 36")
        self.assertEqual((guard_weight(order), told_error(self, TooHeavy, guard_set, order)), (2509, (2509,)))
        each = read_guard('each "abcdef" in code')
        self.assertLessEqual(guard_set(each, tongue_of_weight(110)).table.states, 22 * 110)
        self.assertEqual(told_error(self, TooHeavy, guard_set, each, tongue_of_weight(121)), (2662,))
        both = closed_guard() & signs_guard(48)
        self.assertLessEqual(guard_set(both, tongue_of_weight(50)).table.states, 2500)
        self.assertEqual(told_error(self, TooHeavy, guard_set, both & A, tongue=tongue_of_weight(26)), (2600,))

    def test_the_heaviest_range(self):
        guard = read_guard("each line from short 32 to short 34")
        self.assertEqual(guard_weight(guard), 2449)
        kept = guard_set(guard)
        self.assertEqual(["a" * 32 in kept, "a" * 33 in kept, "\n" + "a" * 34 in kept, "\n" + "a" * 35 + "\n" in kept],
                         [True, False, True, True])
        self.assertFalse("\n\n" + "a" * 33 in kept)


class SetTest(unittest.TestCase):
    def check(self, guard, signs, length, tongue=None):
        kept = guard_set(guard, tongue)
        self.assertLessEqual(kept.table.states, guard_weight(guard, tongue), guard.written)
        for text in texts_up_to(signs, length):
            self.assertEqual(text in kept, guard.holds_of(text, tongue),
                             (guard.written, tongue.text if tongue else None, text))

    def test_leaves_against_holds_of(self):
        source = Random(311)
        for _ in range(250):
            self.check(any_leaf(source, "ab\n", False), "\nabc", 4)

    def test_leaves_of_line_tests(self):
        source = Random(312)
        for test in [any_linetest(source, "ab") for _ in range(60)]:
            for text in ("each line X", "some line X", "at most 1 lines X", "lines X ahead of lines X"):
                guard = read_guard(text.replace("X", linetest_text(test)))
                if guard_weight(guard) <= 2500:
                    self.check(guard, "\nab", 5)

    def test_pairs(self):
        for depth in (1, 2, 9):
            self.check(read_guard(f'paired "a" "b" within {depth}'), "abc", 6)

    def test_leaves_with_tongues(self):
        source = Random(313)
        tongues = [Tongue("quote ' to '"), Tongue("remark // to line\nquote ' to ' escape /"), Tongue(""),
                   Tongue("remark // to '/ nested 2"), Tongue("quote ' to ' doubled line")]
        tongues += [any_tongue(source, "'/", 2) for _ in range(10)]
        for number in range(150):
            tongue = tongues[number - number // len(tongues) * len(tongues)]
            self.check(any_leaf(source, "a'/\n", True), "\na'/", 4, tongue)
        for text in ('has "a" in quotes', 'each "aa" in code', 'each "\'a" in quotes', 'paired "a" "/" within 2 in remarks',
                     'has "//" in remarks', 'each "\\n" in code', 'paired "\'" "a" within 1 in quotes', "closed"):
            for tongue in tongues:
                self.check(read_guard(text), "\na'/", 5, tongue)

    def test_joined_guards(self):
        source = Random(314)
        for number in range(80):
            guard = any_guard(source, "ab\n", False, 3)
            if guard_weight(guard) <= 2500:
                self.check(guard, "\nab", 5)
        quotes = Tongue("quote ' to '")
        for number in range(40):
            guard = any_guard(source, "a'", True, 2)
            if guard_weight(guard, quotes) <= 2500:
                self.check(guard, "\na'", 5, quotes)

    def test_signs_that_no_guard_names(self):
        self.assertEqual(guard_set(signs_guard(1)).many_of(1), 95)
        self.assertEqual(guard_set(A).many_of(1), 1)
        self.assertEqual(guard_set(read_guard('has "//" in remarks'), Tongue("remark // to line")).least_text(), "//")
        self.assertEqual(guard_set(read_guard('not each "a" in code'), Tongue("remark + to line")).least_text(), "+a")


class CompareTest(unittest.TestCase):
    def texts(self):
        return list(texts_up_to("\n !ab", 4))

    def guards(self, seed, many):
        source = Random(seed)
        found = [any_guard(source, "ab\n", False, 1) for _ in range(many)]
        return [guard for guard in found if guard_weight(guard) <= 2500 and guard_set(guard).table.states <= 12]

    def first(self, truth):
        return next((text for text in self.texts() if truth(text)), None)

    def check_text(self, told, truth):
        if told is None or len(told) <= 4:
            self.assertEqual(told, self.first(truth))
        else:
            self.assertIsNone(self.first(truth))
            self.assertTrue(truth(told))

    def test_implied_and_parting_texts(self):
        told = self.guards(321, 30)
        for one, other in product(told[:12], told[12:20]):
            self.check_text(implied_text(one, other), lambda text: one.holds_of(text) and not other.holds_of(text))
            self.check_text(parting_text(one=one, other=other), lambda text: one.holds_of(text) != other.holds_of(text))
            self.assertIsNone(implied_text(one, one))
            self.assertIsNone(parting_text(one, one))

    def test_needless_and_clashing_guards(self):
        source = Random(322)
        told = self.guards(323, 40)
        for _ in range(120):
            some = [source.choice(told) for _ in range(source.choice([0, 1, 2, 3, 3, 4]))]
            states = [guard_set(guard).table.states for guard in some]
            weight = 1
            for many in states:
                weight *= many
            if weight > 2500:
                self.assertEqual(told_error(self, TooHeavy, needless_guards, some), (weight,))
                self.assertEqual(told_error(self, TooHeavy, clashing_guards, tuple(some)), (weight,))
                continue
            self.assertEqual(needless_guards(guards=some), self.plain_needless(some))
            self.assertEqual(clashing_guards(guards=tuple(some)), self.plain_clashing(some))

    def all_of(self, guards):
        kept = all_texts()
        for guard in guards:
            kept = kept & guard_set(guard)
        return kept

    def plain_needless(self, guards):
        needless = []
        for number, guard in enumerate(guards):
            others = [one for k, one in enumerate(guards) if k != number and k not in needless]
            if (self.all_of(others) - guard_set(guard)).is_empty():
                needless.append(number)
        return tuple(needless)

    def plain_clashing(self, guards):
        if not self.all_of(guards).is_empty():
            return ()
        out = []
        for number in range(len(guards)):
            others = [one for k, one in enumerate(guards) if k != number and k not in out]
            if self.all_of(others).is_empty():
                out.append(number)
        return tuple(k for k in range(len(guards)) if k not in out)

    def test_of_none_one_and_several(self):
        always, never = read_guard("at most 9 lines all or not at most 9 lines all"), read_guard("at most 0 lines all")
        self.assertEqual((needless_guards([]), clashing_guards(()), needless_guards([A]), clashing_guards([A])),
                         ((), (), (), ()))
        self.assertEqual((needless_guards([always]), clashing_guards([always])), ((0,), ()))
        self.assertEqual((needless_guards([never]), clashing_guards([never])), ((), (0,)))
        self.assertEqual((needless_guards([A, A, A]), clashing_guards([A, A, ~A])), ((0, 1), (1, 2)))
        self.assertEqual((needless_guards([A, never, B]), clashing_guards([A, never, B])), ((0, 2), (1,)))
        self.assertEqual(needless_guards((never, never)), (0,))
        self.assertEqual(clashing_guards((never, never)), (1,))

    def test_with_a_tongue(self):
        quotes = Tongue("quote ' to '")
        inner, every = read_guard('has "a" in quotes'), read_guard('each "a" in quotes')
        self.assertEqual(implied_text(every, inner, quotes), "")
        self.assertEqual(parting_text(A, inner, tongue=quotes), "a")
        self.assertEqual(needless_guards([A, inner, every], quotes), (0,))
        self.assertEqual(clashing_guards([every, A, ~inner], tongue=quotes), (0, 1, 2))

    def test_errors_guard_by_guard(self):
        closed, other = closed_guard(), A & ~closed_guard()
        heavy = and_guard([ABOVE, B])
        for call in (implied_text, parting_text, lambda one, two: needless_guards([one, two]),
                     lambda one, two: clashing_guards((one, two))):
            self.assertEqual(told_error(self, NoTongue, call, closed, ABOVE), (0,))
            self.assertEqual(told_error(self, NoTongue, call, A, other), (1,))
            self.assertEqual(told_error(self, TooHeavy, call, ABOVE, other), (2501,))
            self.assertEqual(told_error(self, TooHeavy, call, heavy, ABOVE), (5002,))
            self.assertEqual(told_error(self, TooHeavy, call, FULL, ABOVE), (2501,))

    def test_all_states_together(self):
        some, more, most = signs_guard(48), signs_guard(49), signs_guard(47)
        self.assertIsNone(implied_text(most, some))
        self.assertEqual(told_error(self, TooHeavy, implied_text, some, more), (2550,))
        self.assertEqual(told_error(self, TooHeavy, implied_text, more, more & some & A), (51 * 100,))
        for call in (implied_text, parting_text, lambda one, two: needless_guards([one, two]),
                     lambda one, two: clashing_guards([one, two])):
            self.assertEqual(told_error(self, TooHeavy, call, more, more | A & signs_guard(0)), (51 * 51,))
            call(some, most)
        # 50 * 50 is 2500.
        alike = some & some
        self.assertIsNone(parting_text(some, alike))
        self.assertIsNone(parting_text(FULL, FULL))
        self.assertEqual(clashing_guards([A, ~A, A]), (1, 2))
        self.assertEqual(told_error(self, TooHeavy, needless_guards, [some, alike, A]), (5000,))

    def test_a_guard_that_is_given_again_counts_again(self):
        some, every = signs_guard(48), read_guard("some line all")
        for call in (needless_guards, clashing_guards):
            self.assertEqual(told_error(self, TooHeavy, call, [some] * 3), (50 * 50 * 50,))
            self.assertEqual(told_error(self, TooHeavy, call, (A,) * 12), (4096,))
            self.assertEqual(told_error(self, TooHeavy, call, [some, A, signs_guard(48)]), (5000,))
        for call in (implied_text, parting_text):
            self.assertEqual(told_error(self, TooHeavy, call, signs_guard(49), signs_guard(49)), (2601,))
            self.assertIsNone(call(some, signs_guard(48)))
        self.assertEqual(needless_guards([A] * 11), tuple(range(10)))
        self.assertEqual(needless_guards([every] * 40), tuple(range(40)))
        self.assertEqual(clashing_guards([some, some]), ())


class RestTest(unittest.TestCase):
    def test_against_all_short_texts(self):
        source = Random(331)
        for _ in range(60):
            guard = any_guard(source, "ab\n", False, 1)
            kept = guard_set(guard)
            for text in ("", "a", "ab", "b\na", "aab\n"):
                rests = [rest for rest in texts_up_to("\n !ab", 3) if guard.holds_of(text + rest)]
                told = least_rest(guard, text)
                if told is None or len(told) > 3:
                    self.assertEqual(rests, [])
                    self.assertTrue(told is None or text + told in kept)
                else:
                    self.assertEqual(told, rests[0])
                lost = [k for k in range(len(text) + 1) if least_rest(guard, text[:k]) is None]
                self.assertEqual(lost_place(guard=guard, text=text), lost[0] if lost else None)

    def test_from_the_empty_text_on(self):
        never = read_guard("at most 0 lines all")
        self.assertEqual([lost_place(never, ""), lost_place(never, "ab"), least_rest(never, "")], [0, 0, None])
        self.assertEqual([lost_place(A, ""), least_rest(A, ""), least_rest(A, "a"), lost_place(~A, "ba")],
                         [None, "a", "", 2])
        self.assertEqual([lost_place(text_guard("begins", "ab"), text) for text in ("ba", "aa", "aba", "")],
                         [1, 2, None, None])

    def test_with_a_tongue(self):
        quotes = Tongue("quote ' to '")
        every = read_guard('each "a" in quotes')
        self.assertEqual(lost_place(every, "'a'b'aa'a", tongue=quotes), 9)
        self.assertEqual(least_rest(guard=closed_guard(), text="'", tongue=quotes), "'")
        self.assertEqual(least_rest(read_guard('has "b" in code'), "'", quotes), "'b")

    def test_errors_in_their_order(self):
        for call in (lost_place, least_rest):
            for text in NO_TEXTS:
                self.assertEqual(told_error(self, BadWord, call, closed_guard(), text), ("text",))
                self.assertEqual(told_error(self, BadWord, call, ABOVE, text), ("text",))
            self.assertEqual(told_error(self, NoTongue, call, ABOVE & closed_guard(), "a"), (2,))
            self.assertEqual(told_error(self, TooHeavy, call, ABOVE, "a"), (2501,))
        self.assertEqual(least_rest(FULL, "a" * 48), "")
        self.assertIsNone(least_rest(FULL, "a" * 49))


class LineMachineTest(unittest.TestCase):
    def test_the_parts_of_ranges(self):
        tests = [read_linetest(line) for line in ("all", "last", "number 2", "short 0", 'has "a"', 'is ""')]
        for one, two in product(tests, repeat=2):
            test = range_test(one, two)
            for told in (test, other_test(test)):
                for leaf in ("each line", "some line"):
                    guard = read_guard(f"{leaf} {linetest_text(told)}")
                    found = guard_set(guard)
                    for text in texts_up_to("\na", 5):
                        self.assertEqual(text in found, guard.holds_of(text), (guard.written, text))


if __name__ == "__main__":
    unittest.main()
