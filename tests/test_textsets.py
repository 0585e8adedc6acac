"""Sets of texts: [8] to [12]."""

import random
import unittest

from tests.support import texts_up_to, told_error
from textworkshop.errors import TooMany
from textworkshop.signs import all_signs, lines_of
from textworkshop.statetables import StateTable, table_of
from textworkshop.textsets import (
    TextSet, all_texts, beginning_with, each_line, ending_with, having_word, joined_texts, no_texts, one_text,
    some_line)

SIGNS = all_signs()
NAMED = "\nab"
FEW = "\nab "
TEXTS = list(texts_up_to(FEW, 4))
PERCENT = chr(37)


def any_set(source, states=5, named=NAMED):
    rows = [[source.randrange(states) for _ in range(len(named) + 1)] for _ in range(states)]
    return TextSet(StateTable(named, rows, [state for state in range(states) if source.random() < 0.4]))


def any_sets(seed, many):
    source = random.Random(seed)
    return [any_set(source, source.randint(1, 5)) for _ in range(many)]


def ring(sign, many, good=0):
    """The texts with a number of a sign that leaves a rest."""
    return TextSet(table_of(0, lambda s, c: (s + 1) % many if c else s, lambda s: s == good, sign))


def at_most(sign, most):
    return TextSet(table_of(0, lambda s, c: min(s + 1, most + 1) if c else s, lambda s: s <= most, sign))


def no_longer(most):
    return TextSet(table_of(0, lambda s, c: min(s + 1, most + 1), lambda s: s <= most, ""))


class OperationsTest(unittest.TestCase):
    def test_texts_of_operations(self):
        sets = any_sets(1, 24)
        for one, two in zip(sets, sets[1:]):
            both, either, less, others = one & two, one | two, one - two, ~one
            for text in TEXTS:
                told = (text in one, text in two)
                self.assertEqual(text in both, told == (True, True))
                self.assertEqual(text in either, True in told)
                self.assertEqual(text in less, told == (True, False))
                self.assertEqual(text in others, not told[0])
            found = [text for text in texts_up_to(NAMED + " ", 6) if text in less]
            self.assertEqual(one.within(two), less.is_empty())
            self.assertEqual(less.is_empty(), not found)
            self.assertEqual(one == two, (less | (two - one)).is_empty())

    def test_what_is_no_text_is_in_no_set(self):
        for value in (None, 5, True, ("a",), ["a"], b"a", PERCENT, "\t", "a\r", "a" + PERCENT + "b"):
            self.assertFalse(value in all_texts(), value)
            self.assertTrue(value not in no_texts())
        self.assertIs("" in all_texts(), True)
        self.assertIs("" in no_texts(), False)

    def test_equality(self):
        self.assertEqual(having_word("a"), ~one_text("") & having_word("a"))
        self.assertTrue(having_word("a") != having_word("b"))
        self.assertFalse(having_word("a") == having_word("a").table)
        for value in (None, "", 5, object(), set()):
            self.assertFalse(no_texts() == value)

    def test_table_is_the_attribute(self):
        table = StateTable("a", [[1, 0], [1, 1]], [1])
        self.assertEqual(TextSet(table).table, table)
        self.assertEqual(TextSet(table=table), having_word("a"))

    def test_20000_pairs_and_one_more(self):
        one, two, three = ring("a", 100), ring("b", 200), ring("a", 177)
        self.assertEqual(((one & two).table.states, (one | two).table.states), (20000, 20000))
        self.assertEqual((one - two).table.states, 20000)
        self.assertFalse(one.within(two))
        for call in (lambda s, t: s & t, lambda s, t: s | t, lambda s, t: s - t, lambda s, t: s.within(t)):
            self.assertEqual(told_error(self, TooMany, call, three, ring("b", 113)), ("states", 20001, 20000))

    def test_pairs_are_counted_also_where_they_settle_nothing(self):
        one, two = ring("a", 177) & ~one_text(""), ring("b", 113)
        self.assertEqual(one.table.states, 178)
        for call in (lambda: one & two, lambda: two.within(one)):
            self.assertEqual(told_error(self, TooMany, call), ("states", 20001, 20000))
        # Only the pairs that texts lead to are counted: these are 177, not 177 * 177.
        self.assertEqual((ring("a", 177) & ring("a", 177)).table.states, 177)
        self.assertTrue(ring("a", 20000).within(ring("a", 20000)))

    def test_no_pair_is_counted_for_a_rest_without_signs(self):
        # The rests of both tables have no sign in common, so that together they leave none.
        low, middle, high = SIGNS[:24], SIGNS[24:48], SIGNS[48:]
        one = TextSet(StateTable(high, [[(k + 1) % 177] * 47 + [k] for k in range(177)], [0]))
        rows = [[k] * 24 + [(k + 177) % 354] * 24 + [(k + 1) % 354] for k in range(354)]
        two = TextSet(StateTable(low + middle, rows, [0]))
        self.assertEqual((one.table.named, two.table.named), (high, low + middle))
        self.assertEqual((one & two).table.states, 354)
        self.assertTrue(two.within(one))


class WordsTest(unittest.TestCase):
    def test_sets_of_words(self):
        for word in ("", "a", "ab", "aab", "abab", "a\na", "\n\n", "  a ", "aaaa", "abaab"):
            begin, end, having, one = beginning_with(word), ending_with(word), having_word(word), one_text(word)
            for text in list(texts_up_to("\nab", 5)) + ["  a ", "x  a y", word, word + word, "b" + word + "b"]:
                self.assertEqual(text in begin, text.startswith(word), (word, text))
                self.assertEqual(text in end, text.endswith(word), (word, text))
                self.assertEqual(text in having, word in text, (word, text))
                self.assertEqual(text in one, text == word, (word, text))
            self.assertEqual(end.table.states, len(word) + 1)
            self.assertEqual(having.table.states, len(word) + 1)

    def test_all_and_none(self):
        self.assertEqual(all_texts().table, StateTable("", [[0]], [0]))
        self.assertEqual(~all_texts(), no_texts())
        self.assertEqual(beginning_with(""), all_texts())
        self.assertTrue(no_texts().is_empty() and not one_text("").is_empty())

    def test_words_of_200_signs(self):
        source = random.Random(3)
        for signs in ("a", "ab", SIGNS):
            word = "".join(source.choice(signs) for _ in range(200))
            sets = [beginning_with(word), ending_with(word), having_word(word)]
            for text in (word, word + word, word + "~", "~" + word, word[1:], word[:-1], word[1:] + word[0]):
                told = [text.startswith(word), text.endswith(word), word in text]
                self.assertEqual([text in one for one in sets], told)
            self.assertEqual([one.least_text() for one in sets], [word] * 3)

    def test_texts_of_2000_signs(self):
        source = random.Random(4)
        text = "".join(source.choice(SIGNS) for _ in range(2000))
        one = one_text(text)
        self.assertTrue(text in one and text[1:] not in one and text + "a" not in one)
        self.assertEqual([one.many_of(2000), one.many_of(1999), one.all_many()], [1, 0, 1])
        self.assertEqual([one.least_text(), one.text_at(2000, 0), one.text_at(2000, 1)], [text, text, None])
        self.assertEqual(one.behind(text[:1500]), one_text(text[1500:]))
        self.assertEqual(one.ahead(text[1500:]), one_text(text[:1500]))
        self.assertEqual((one.behind(text), one.ahead(text), one.behind("a" + text)),
                         (one_text(""), one_text(""), no_texts()))
        other = one_text(text[:-1] + ("a" if text[-1] != "a" else "b"))
        self.assertEqual(((one | other).all_many(), (one & other).all_many()), (2, 0))


class CountingTest(unittest.TestCase):
    def test_numbers_and_texts_of_a_length(self):
        for one in any_sets(5, 12):
            for length in (0, 1, 2):
                found = [text for text in texts_up_to(SIGNS, length) if len(text) == length and text in one]
                self.assertEqual(one.many_of(length), len(found))
                for number in {0, 1, 50, len(found) // 2, len(found) - 1, len(found), len(found) + 1}:
                    told = found[number] if 0 <= number < len(found) else None
                    self.assertEqual(one.text_at(length, number), told)
            found = [text for text in texts_up_to(FEW, 5) if text in one]
            self.assertEqual(one.least_text(), found[0] if found else None)

    def test_least_text_is_the_first_of_the_shortest(self):
        told = having_word("b") & having_word("a") & ~beginning_with("a") & ~beginning_with("\n")
        self.assertEqual(told.least_text(), "ba")
        self.assertEqual((~one_text("") - one_text("\n")).least_text(), " ")
        self.assertEqual((having_word("~") & having_word("\n")).least_text(), "\n~")
        self.assertIsNone(no_texts().least_text())
        self.assertEqual(all_texts().least_text(), "")

    def test_texts_are_in_the_order_of_signs(self):
        one = having_word("b") & no_longer(9)
        for length in (4, 7):
            many = one.many_of(length)
            told = [one.text_at(length, k) for k in (0, 1, 2, many // 3, many // 2, many - 2, many - 1)]
            self.assertEqual(told, sorted(told))
            self.assertTrue(all(text in one and len(text) == length for text in told))
            self.assertIsNone(one.text_at(length, many))

    def test_lengths_of_2000(self):
        self.assertEqual(all_texts().many_of(2000), 95 ** 2000)
        self.assertEqual(all_texts().text_at(2000, 95 ** 2000 - 1), "~" * 2000)
        self.assertIsNone(all_texts().text_at(2000, 95 ** 2000))
        self.assertEqual(all_texts().text_at(2000, 2), "\n" * 1999 + "!")
        one = at_most("a", 3)
        told = sum(94 ** (2000 - k) * [1, 2000, 1999000, 1331334000][k] for k in range(4))
        self.assertEqual(one.many_of(2000), told)
        last = one.text_at(2000, told - 1)
        self.assertEqual(last, "~" * 2000)
        middle = one.text_at(2000, told // 2)
        self.assertTrue(middle in one and len(middle) == 2000)
        self.assertEqual(having_word("ab").text_at(2000, 0), "\n" * 1998 + "ab")

    def test_number_of_a_text_is_found_again(self):
        source = random.Random(6)
        for one in any_sets(7, 12):
            for length in (3, 10, 37):
                many = one.many_of(length)
                for number in [source.randrange(many) for _ in range(3)] if many else []:
                    text = one.text_at(length, number)
                    ahead = sum(one.behind(text[:k] + sign).many_of(length - k - 1)
                                for k in range(length) for sign in SIGNS if sign < text[k])
                    self.assertEqual((len(text), ahead, text in one), (length, number, True))

    def test_texts_of_a_length_in_a_great_table(self):
        # At each place a ladder of two states, each of which leads to both of the next place.
        told = table_of((0, 0), lambda s, c: (min(s[0] + 1, 5000), s[0] < 4999 and (c == "a") + s[1] & 1),
                        lambda s: not s[1], "a")
        ladder = TextSet(told)
        self.assertGreater(ladder.table.states, 9000)
        self.assertEqual(ladder.many_of(60), (95 ** 60 + 93 ** 60) // 2)
        self.assertEqual(ladder.text_at(60, 0), "\n" * 60)
        self.assertEqual(ladder.text_at(60, ladder.many_of(60) - 1), "~" * 60)
        self.assertEqual(at_most("a", 19998).text_at(100, 95 ** 100 - 1), "~" * 100)

    def test_how_many_texts_in_all(self):
        self.assertEqual([one.all_many() for one in (no_texts(), one_text(""), one_text("ab"))], [0, 1, 1])
        self.assertEqual((one_text("ab") | one_text("b") | one_text("ab\n")).all_many(), 3)
        self.assertEqual(no_longer(20).all_many(), sum(95 ** k for k in range(21)))
        for one in (all_texts(), having_word("a"), ~one_text("a"), each_line(one_text("")), ring("a", 3)):
            self.assertIsNone(one.all_many())
        # Round and round, but from there no good state is met.
        rows = [[1, 2, 0], [2, 2, 2], [2, 2, 2]]
        self.assertIsNone(TextSet(StateTable("ab", rows, [1])).all_many())
        rows = [[1, 2, 2], [2, 2, 2], [2, 2, 2]]
        self.assertEqual(TextSet(StateTable("ab", rows, [1])).all_many(), 1)

    def test_all_of_small_finite_sets(self):
        source = random.Random(8)
        for _ in range(20):
            one = any_set(source) & no_longer(3)
            self.assertEqual(one.all_many(), sum(one.many_of(length) for length in range(4)))


class PartsTest(unittest.TestCase):
    def test_behind_and_ahead(self):
        for one in any_sets(9, 15):
            for word in ("", "a", "b\n", "abba ", "\n\n"):
                behind, ahead = one.behind(word), one.ahead(word)
                for text in texts_up_to(FEW, 3):
                    self.assertEqual(text in behind, word + text in one)
                    self.assertEqual(text in ahead, text + word in one)
                self.assertLessEqual(behind.table.states, one.table.states)
                self.assertLessEqual(ahead.table.states, one.table.states)

    def test_joined_texts(self):
        sets = any_sets(10, 16)
        for one, two in zip(sets, sets[1:]):
            joined = joined_texts(one, two)
            for text in TEXTS:
                parted = any(text[:k] in one and text[k:] in two for k in range(len(text) + 1))
                self.assertEqual(text in joined, parted)
        self.assertEqual(joined_texts(all_texts(), no_texts()), no_texts())
        self.assertEqual(joined_texts(no_texts(), all_texts()), no_texts())
        self.assertEqual(joined_texts(s=one_text(""), t=one_text("a")), one_text("a"))

    def test_joined_texts_of_20000_sets_and_one_more(self):
        self.assertEqual(joined_texts(one_text(""), ring("a", 19999)), ring("a", 19999))
        self.assertEqual(told_error(self, TooMany, joined_texts, one_text(""), ring("a", 20000)),
                         ("states", 20001, 20000))

    def test_joined_texts_count_the_sets_and_not_the_states(self):
        def exactly(length):
            return no_longer(length) - no_longer(length - 1)

        self.assertEqual(joined_texts(ending_with("a"), exactly(12)).table.states, 2 ** 13)
        with self.assertRaises(TooMany):
            joined_texts(ending_with("a"), exactly(14))
        # The states of t that are met behind its end are counted, too.
        self.assertEqual(joined_texts(one_text("a"), exactly(13)), exactly(14) & beginning_with("a"))

    def test_lines(self):
        for one in any_sets(11, 15):
            each, some = each_line(one), some_line(one)
            for text in TEXTS:
                truths = [line in one for line in lines_of(text)]
                self.assertEqual(text in each, all(truths))
                self.assertEqual(text in some, any(truths))

    def test_texts_with_a_newline_are_no_lines(self):
        self.assertTrue(each_line(one_text("a\nb")).is_empty())
        self.assertTrue(some_line(having_word("\n")).is_empty())
        self.assertEqual(each_line(all_texts()), all_texts())
        self.assertEqual(each_line(s=~having_word("\n")), all_texts())
        self.assertEqual(each_line(one_text("")).many_of(5), 1)
        self.assertFalse("" in each_line(no_texts()) or "" in some_line(no_texts()))

    def test_lines_of_great_sets(self):
        great = ring("a", 19999)
        self.assertEqual(each_line(great).table.states, 20000)
        rows = [[(k + 1) % 20100, k] for k in range(20100)]
        greater = TextSet(StateTable("a", rows, [5]))
        self.assertEqual([each_line(greater).table.states, some_line(greater).table.states], [20101, 20101])
        self.assertEqual([(~greater).table.states, greater.behind("a").table.good], [20100, (4,)])


class FactsTest(unittest.TestCase):
    def test_facts(self):
        sets = any_sets(12, 14)
        for s, t in zip(sets, sets[1:]):
            self.assertEqual(s - t, s & ~t)
            self.assertEqual(~(s & t), ~s | ~t)
            self.assertEqual(s.within(t), (s - t).is_empty())
            self.assertEqual(s.within(t), s | t == t)
            self.assertEqual(some_line(s), ~each_line(~s))
            for u, v in (("a", "b\n"), ("", "ab"), ("ba", "")):
                self.assertEqual(s.behind(u).behind(v), s.behind(u + v))
                self.assertEqual(s.ahead(v).ahead(u), s.ahead(u + v))
                self.assertEqual(joined_texts(one_text(u), s).behind(u), s)
                self.assertEqual((s & t).behind(u), s.behind(u) & t.behind(u))
            for length in range(5):
                self.assertEqual((s | t).many_of(length) + (s & t).many_of(length),
                                 s.many_of(length) + t.many_of(length))
                self.assertEqual(s.many_of(length) + (~s).many_of(length), 95 ** length)

    def test_how_great(self):
        sets = any_sets(13, 14)
        for s, t in zip(sets, sets[1:]):
            self.assertLessEqual((s & t).table.states, s.table.states * t.table.states)
            self.assertEqual((~s).table.states, s.table.states)
        for most in (0, 1, 5):
            self.assertEqual(at_most("a", most).table.states, most + 2)
        for place in (1, 2, 5):
            told = joined_texts(ending_with("a"), no_longer(place - 1) - no_longer(place - 2))
            self.assertEqual(told.table.states, 2 ** place)

    def test_sets_never_change(self):
        one, two = having_word("a"), having_word("b")
        before = (one.table.named, one.table.rows, one.table.good)
        (one & two, one | two, one - two, ~one, one.within(two), one.behind("a"), one.ahead("a"))
        (each_line(one), some_line(one), joined_texts(one, two), one.text_at(3, 0), one.all_many())
        self.assertEqual((one.table.named, one.table.rows, one.table.good), before)


if __name__ == "__main__":
    unittest.main()
