"""Texts mended: [34]."""

import unittest
from random import Random

from tests.support import any_guard, any_text, texts_up_to, told_error, tongue_of_weight
from textworkshop.errors import BadWord, NoTongue, TooHeavy
from textworkshop.guards import and_guard, closed_guard, kind_guard, signs_guard, text_guard
from textworkshop.guardsets import guard_set, guard_weight
from textworkshop.guardtexts import read_guard
from textworkshop.mending import mended_text
from textworkshop.tongues import Tongue

A, B = text_guard("has", "a"), text_guard("has", "b")
SIGNS = "\n !ab"


def changed(texts, signs):
    """All texts that one change more makes of texts."""
    found = set()
    for text in texts:
        for place in range(len(text) + 1):
            found |= {text[:place] + sign + text[place:] for sign in signs}
            if place < len(text):
                found.add(text[:place] + text[place + 1:])
                found |= {text[:place] + sign + text[place + 1:] for sign in signs if sign != text[place]}
    return found


def plain_mended(guard, text, most, tongue=None, signs=SIGNS):
    """What mended_text tells, by trying all changes one after the other; None beyond most changes."""
    found = seen = {text}
    for many in range(most + 1):
        good = [one for one in found if guard.holds_of(one, tongue)]
        if good:
            return many, min(good, key=lambda one: (len(one), one))
        found = changed(found, signs) - seen
        seen = seen | found
    return None


class MendingTest(unittest.TestCase):
    def check(self, guard, text, tongue=None, signs=SIGNS):
        told = mended_text(guard, text, tongue)
        plain = plain_mended(guard, text, 2, tongue, signs)
        if plain is None:
            self.assertTrue(told is None or told[0] > 2 and guard.holds_of(told[1], tongue), (guard.written, text))
        else:
            self.assertEqual(told, plain, (guard.written, text))

    def test_against_all_changes(self):
        source = Random(341)
        for _ in range(150):
            guard = any_guard(source, "ab\n", False, source.choice([0, 1, 2]))
            if guard_weight(guard) <= 400:
                self.check(guard, any_text(source, "ab\n!", 4))

    def test_against_all_changes_with_a_tongue(self):
        source = Random(342)
        quotes = Tongue("quote ' to '\nremark / to line")
        for _ in range(60):
            guard = any_guard(source, "a'/", True, 1)
            if guard_weight(guard, quotes) <= 400:
                self.check(guard, any_text(source, "a'/\n", 4), quotes, "\n '/ab")

    def test_all_three_changes(self):
        for text, told in (('is "abc"', (3, "abc")), ('begins "ab" and ends "cd" and at most 4 signs', (4, "abcd"))):
            self.assertEqual(mended_text(read_guard(text), "" if told[0] == 4 else "bxcx"), told)
        pair = read_guard('begins "(" and ends ")" and not has "x" and at most 3 signs')
        self.assertEqual(mended_text(guard=pair, text="ax("), (3, "()"))
        self.assertEqual(mended_text(pair, "((x"), (1, "(()"))
        self.assertEqual(mended_text(text_guard("is", "ba"), "ab"), (2, "ba"))
        self.assertEqual(mended_text(text_guard("is", "abcdef"), "bcdefa"), (2, "abcdef"))

    def test_first_of_the_shortest(self):
        self.assertEqual(mended_text(A, ""), (1, "a"))
        self.assertEqual(mended_text(A, "zz"), (1, "az"))
        self.assertEqual(mended_text(~A, "bab"), (1, "bb"))
        self.assertEqual(mended_text(~read_guard("at most 1 signs"), ""), (2, "\n\n"))
        self.assertEqual(mended_text(~read_guard("at most 2 signs"), "z "), (1, "\nz "))
        self.assertEqual(mended_text(read_guard("at most 1 signs"), "ba"), (1, "a"))
        self.assertEqual(mended_text(read_guard('each line is "a" or each line is "b"'), ""), (1, "a"))
        self.assertEqual(mended_text(read_guard('not has "\\n" and not at most 1 signs'), ""), (2, "  "))
        self.assertEqual(mended_text(read_guard('at most 0 of "a"'), "aba"), (2, "b"))

    def test_no_shorter_text_by_more_changes(self):
        # Without c the text would be shorter, but one change is enough.
        self.assertEqual(mended_text(read_guard('ends "z" and not ends "cz"'), "cab"), (1, "caz"))
        self.assertEqual(mended_text(read_guard('ends "z" and not has "cz"'), "cc"), (2, "z"))
        # A third change would make it a!aa or the like, as long, and earlier in the order of signs.
        for guard, text, told in (('has "aa"', "b!b\n", "aab\n"), ('some line begins "aa"', "b!\n\n\n", "aa\n\n\n"),
                                  ('has "\\na\\n"', "a!\nba", "\na\nba")):
            self.assertEqual(mended_text(read_guard(guard), text), (2, told))

    def test_nothing_to_mend_and_nothing_that_could(self):
        self.assertEqual(mended_text(A, "xxa"), (0, "xxa"))
        self.assertEqual(mended_text(text_guard("is", ""), ""), (0, ""))
        never = read_guard("at most 0 lines all")
        self.assertEqual([mended_text(never, ""), mended_text(never, "abc"), mended_text(A & ~A, "a")], [None] * 3)

    def test_with_a_tongue(self):
        quotes = Tongue("quote ' to '")
        self.assertEqual(mended_text(closed_guard(), "a'b", tongue=quotes), (1, "ab"))
        self.assertEqual(mended_text(kind_guard("has", "b", "quotes"), "ab", quotes), (1, "'b"))
        self.assertEqual(mended_text(closed_guard(), "a", quotes), (0, "a"))

    def test_errors_in_their_order(self):
        above = and_guard([signs_guard(39), signs_guard(59)])
        for text in (None, 5, True, b"a", ["a"], ("a",), {}, "\t", chr(37), "a\u00e9", object(), A):
            self.assertEqual(told_error(self, BadWord, mended_text, above & closed_guard(), text), ("text",))
        self.assertEqual(told_error(self, NoTongue, mended_text, above & closed_guard(), "a"), (2,))
        self.assertEqual(told_error(self, TooHeavy, mended_text, above, "a" * 3000), (2501,))
        self.assertEqual(told_error(self, TooHeavy, mended_text, closed_guard() & above, "a", tongue_of_weight(2)), (5002,))

    def test_states_and_signs_at_2500_and_above(self):
        fifty = signs_guard(48)
        self.assertEqual(guard_set(fifty).table.states, 50)
        self.assertEqual(mended_text(fifty, "ba" * 24 + "b"), (1, "a" + "ba" * 23 + "b"))
        self.assertEqual(told_error(self, TooHeavy, mended_text, fifty, "a" * 50), (2550,))
        self.assertEqual(mended_text(A, "b" * 1249), (1, "a" + "b" * 1248))
        self.assertEqual(told_error(self, TooHeavy, mended_text, A, "a" * 1250), (2502,))
        never = read_guard("at most 0 lines all")
        self.assertIsNone(mended_text(never, "a" * 2499))
        self.assertEqual(told_error(self, TooHeavy, mended_text, never, "a" * 2500), (2501,))

    def test_many_named_signs(self):
        told = read_guard('has "ghijkl" and has "abcdef" and not has "z"')
        self.assertEqual(mended_text(told, "zzz"), (12, "abcdefghijkl"))
        self.assertEqual(mended_text(told, "ghijkl"), (6, "abcdefghijkl"))
        self.assertEqual(mended_text(told, "ghizjkl"), (7, "abcdefghijkl"))

    def test_the_changes_are_counted_from_the_text(self):
        for guard, text in ((read_guard('at most 1 of "a" and not at most 5 signs'), "aaa"), (A & B, "xy\n")):
            many, result = mended_text(guard, text)
            self.assertTrue(guard.holds_of(result))
            near = [one for one in texts_up_to("ab\n", 3) if guard.holds_of(one)]
            self.assertTrue(many > 0 and (not near or len(result) <= max(len(text) + many, 1)))


if __name__ == "__main__":
    unittest.main()
