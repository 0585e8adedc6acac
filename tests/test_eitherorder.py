"""Two scripts on all texts: [71] to [74]."""

import unittest
from random import Random

from tests.asking import (
    SIGNS, any_question, check_first, dense_set, is_in, light_script, light_set, made, result_of, result_of_both)
from tests.support import texts_up_to, told_error
from textworkshop.eitherorder import merge_conflict, merge_parting, order_parting
from textworkshop.errors import MayConflict, TooHeavy
from textworkshop.guardsets import guard_set
from textworkshop.guardtexts import read_guard
from textworkshop.merges import conflict_pieces, merged_text
from textworkshop.scripts import Script
from textworkshop.textsets import all_texts, having_word, no_texts, one_text
from textworkshop.tongues import Tongue

TEXTS = list(texts_up_to(SIGNS, 4))
AHEAD, BEHIND, TURN, BACK = (made(told) for told in (
    'ahead "x" on lines all', 'behind "y" on lines all', 'replace "a" by "b"', 'replace "b" by "c"'))
QUOTES, REMARKS = Tongue("quote ' to '"), Tongue("remark # to line")


def questions(seed, many):
    source = Random(seed)
    for _ in range(many):
        yield light_script(source, 2), light_script(source, 2), light_set(source), TEXTS
        yield light_script(source, 1), light_script(source, 1), light_set(source), TEXTS
        if source.random() < 0.4:
            yield any_question(source)


class OrderTest(unittest.TestCase):
    def test_against_runs_of_all_short_texts(self):
        same = 0
        for one, other, under, texts in questions(721, 120):
            def shows(text):
                return is_in(under, text) and result_of_both(one, other, text) != result_of_both(other, one, text)

            try:
                told = order_parting(one, other, under=under)
            except TooHeavy:
                continue
            check_first(self, told, texts, shows)
            self.assertEqual(order_parting(one=other, other=one, under=under), told)
            same += told is None
        self.assertGreater(same, 50)

    def test_ordinary_scripts(self):
        self.assertEqual([order_parting(TURN, BACK), order_parting(AHEAD, BEHIND)], ["a", None])
        self.assertIsNone(order_parting(TURN, TURN))
        self.assertEqual(order_parting(AHEAD, made('drop lines is ""')), "\n")
        self.assertEqual(order_parting(made("drop lines number 1"), made('ahead "x" on lines number 1')), "")

    def test_refusals(self):
        want = made('want has "a"')
        # Both ways refuse the same texts, by unlike scripts.
        self.assertIsNone(order_parting(want, made('want has "b"')))
        self.assertEqual(order_parting(want, TURN), "a")
        self.assertEqual(order_parting(want, TURN, under=having_word("b") & ~having_word("ab")), "ba")
        self.assertIsNone(order_parting(want, TURN, under=~having_word("a")))

    def test_under_sets(self):
        self.assertIsNone(order_parting(TURN, BACK, under=no_texts()))
        self.assertIsNone(order_parting(TURN, BACK, under=one_text("bxb")))
        self.assertEqual(order_parting(TURN, BACK, under=one_text("bxa")), "bxa")
        self.assertEqual(order_parting(TURN, BACK, under=having_word("bb")), "abb")

    def test_unlike_tongues(self):
        one = made('replace "a" by "#" in quotes', tongue=QUOTES)
        other = made('replace "a" by "b" in remarks', tongue=REMARKS)
        self.assertEqual(order_parting(one, other), "#'a")
        self.assertEqual(order_parting(one, other, under=~having_word("#")), "'a'a")
        self.assertIsNone(order_parting(one, other, under=~having_word("'")))

    def test_more_than_six_steps_together(self):
        turn = made(*['replace "a" by "b"', 'replace "c" by "d"', 'replace "e" by "f"'] * 2)
        self.assertIsNone(order_parting(turn, made(*['replace "g" by "h"'] * 6)))


class ConflictTest(unittest.TestCase):
    def test_against_merges_of_all_short_texts(self):
        conflicts = without = 0
        for one, other, under, texts in questions(731, 120):
            def shows(text):
                return (is_in(under, text) and result_of(one, text) is not None and result_of(other, text) is not None
                        and conflict_pieces(text, one, other) != ())

            try:
                told = merge_conflict(one, other, under=under)
            except TooHeavy:
                continue
            check_first(self, told, texts, shows, False)
            self.assertEqual(told is None, merge_conflict(one=other, other=one, under=under) is None)
            conflicts += told is not None
            without += told is None
        self.assertGreater(min(conflicts, without), 50)

    def test_ordinary_scripts(self):
        self.assertEqual(merge_conflict(AHEAD, BEHIND), "")
        self.assertIn(merge_conflict(TURN, BACK), ("ab", "ba"))
        self.assertEqual(merge_conflict(made('replace "ab" by "x"'), made('replace "bc" by "y"')), "abc")
        some = guard_set(read_guard('not some line is ""'))
        self.assertIsNone(merge_conflict(AHEAD, BEHIND, under=some))
        self.assertIsNone(merge_conflict(AHEAD, AHEAD))
        self.assertIsNone(merge_conflict(Script([]), TURN))
        self.assertEqual(merge_conflict(TURN, made('replace "a" by "a"')), "a")
        self.assertEqual(merge_conflict(AHEAD, made('ahead "xx" on lines all')), "")

    def test_what_is_put_in_a_piece_by_one_and_then_by_the_other(self):
        # The words of both pieces are told in parts: x and then a newline, or both at once.
        one, other = made('behind "x" on lines all', 'above "" on lines not number 1'), made('below "" on lines all')
        told = merge_conflict(one, other)
        self.assertEqual(told, "")
        self.assertNotEqual(conflict_pieces(told, one, other), ())
        both = made('replace "ab" by "xyz"'), made('first "a" by "x"', 'replace "xb" by "xyz"')
        self.assertEqual(merge_conflict(*both), "aab")
        self.assertIsNone(merge_conflict(*both, under=one_text("ab")))

    def test_refusals(self):
        want = made('want has "a"', 'replace "b" by "x"')
        self.assertEqual(len(merge_conflict(want, made('replace "b" by "y"'))), 2)
        self.assertIsNone(merge_conflict(want, made('want not has "a"', 'replace "b" by "y"')))
        self.assertEqual(len(merge_conflict(made('once "a" by "x"'), made('once "b" by "y"'))), 2)

    def test_under_sets(self):
        self.assertIsNone(merge_conflict(TURN, BACK, under=no_texts()))
        self.assertIsNone(merge_conflict(TURN, BACK, under=one_text("a b")))
        self.assertEqual(merge_conflict(TURN, BACK, under=one_text("a ba")), "a ba")
        self.assertIn(merge_conflict(TURN, BACK, under=having_word("xx")), ("abxx", "baxx", "xxab", "xxba"))

    def test_unlike_tongues(self):
        one = made('replace "a" by "x" in quotes', tongue=QUOTES)
        other = made('replace "a" by "y" in remarks', tongue=REMARKS)
        told = merge_conflict(one, other)
        self.assertEqual((len(told), told[2], set(told[:2])), (3, "a", {"'", "#"}))

    def test_dense_sets(self):
        dense = dense_set(60, "abc\n", 73)
        one, other = made('replace "ab" by "c"'), made('replace "ba" by "c"')
        told = merge_conflict(one, other, under=dense)
        texts = [text for text in texts_up_to("\n abc", 5) if text in dense and conflict_pieces(text, one, other)]
        self.assertTrue(told in dense and conflict_pieces(told, one, other))
        self.assertEqual(len(told), len(texts[0]))


class MergeTest(unittest.TestCase):
    def test_against_merges_of_all_short_texts(self):
        parted = same = 0
        for one, other, under, texts in questions(741, 200):
            def shows(text):
                return (is_in(under, text) and result_of(one, text) is not None and result_of(other, text) is not None
                        and merged_text(text, one, other) != result_of_both(one, other, text))

            try:
                told = merge_parting(one, other, under=under)
            except TooHeavy:
                continue
            except MayConflict as error:
                self.check_conflict(error.text, one, other, under)
                continue
            self.assertIsNone(merge_conflict(one, other, under=under))
            check_first(self, told, texts, shows, False)
            parted += told is not None
            same += told is None
        self.assertGreater(same, 50)
        self.assertGreater(parted, 5)

    def check_conflict(self, text, one, other, under):
        self.assertNotEqual(conflict_pieces(text, one, other), ())
        self.assertTrue(is_in(under, text))
        self.assertEqual(len(text), len(merge_conflict(one, other, under=under)))

    def test_ordinary_scripts(self):
        some = guard_set(read_guard('not some line is ""'))
        self.assertIsNone(merge_parting(one=AHEAD, other=BEHIND, under=some))
        self.assertEqual(merge_parting(BEHIND, BEHIND), "")
        self.assertEqual(told_error(self, MayConflict, merge_parting, AHEAD, BEHIND), ("",))
        self.assertIsNone(merge_parting(TURN, TURN))
        self.assertIsNone(merge_parting(Script([]), Script([])))
        once = made('once "a" by "b"')
        # Done twice, the second time refuses.
        self.assertEqual(merge_parting(once, once), "a")
        self.assertEqual(merge_parting(made('first "a" by ""'), made('first "a" by ""')), "aa")
        self.assertIsNone(merge_parting(made('want has "a"'), made('want has "b"')))

    def test_one_and_then_other(self):
        # Other acts on what one has put, but not the other way round.
        one, other = made('first "a" by "b"'), made('replace "b" by "c"')
        under = guard_set(read_guard('at most 0 of "ab" and at most 0 of "ba"'))
        self.assertEqual(merge_parting(one, other, under=under), "a")
        self.assertIsNone(merge_parting(other, one, under=under))

    def test_under_sets(self):
        self.assertIsNone(merge_parting(TURN, BACK, under=no_texts()))
        self.assertEqual(merge_parting(TURN, BACK, under=one_text("a b")), "a b")
        self.assertIsNone(merge_parting(BACK, TURN, under=one_text("a b")))
        self.assertEqual(told_error(self, MayConflict, merge_parting, TURN, BACK, under=one_text("ab")), ("ab",))

    def test_too_heavy_ahead_of_conflicts(self):
        six = made('first "abc" by "x"')
        self.assertEqual(merge_conflict(six, made('replace "abcde" by "y"')), "abcde")
        self.assertEqual(told_error(self, TooHeavy, merge_parting, six, made('replace "abcde" by "y"')), (54 * 54,))
        self.assertEqual(told_error(self, MayConflict, merge_parting, six, made('replace "abcd" by "y"')), ("abcd",))

    def test_unlike_tongues(self):
        one = made('replace "a" by "x" in quotes', tongue=QUOTES)
        other = made('replace "b" by "y" in remarks', tongue=REMARKS)
        with self.assertRaises(MayConflict):
            merge_parting(one, other)
        apart = guard_set(read_guard('at most 0 of "ab" and at most 0 of "ba"'))
        self.assertIsNone(merge_parting(one, other, under=apart))
        self.assertIsNone(merge_parting(one, other, under=~having_word("b") & all_texts()))


if __name__ == "__main__":
    unittest.main()
