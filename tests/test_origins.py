"""What stays, what goes, what is put: [39] to [41]."""

import unittest
from random import Random

from tests.support import any_script, any_step, any_text, plain_fates, plain_result, told_error
from textworkshop.errors import BadNumber, BadWord, Refused
from textworkshop.guards import text_guard
from textworkshop.linetests import plain_test
from textworkshop.origins import Fates, fates_of, origins_of, place_behind
from textworkshop.runs import run_script
from textworkshop.scripts import Script
from textworkshop.scripttexts import read_script
from textworkshop.steps import put_step, replace_step
from textworkshop.tongues import Tongue

QUOTES = Tongue("quote ' to '")
NO_TEXTS = (None, 5, True, b"a", ["a"], ("a",), {}, "\t", chr(37), "a\u00e9", object())


def joined_fates(text, one, two):
    """The fates of two steps or scripts, gap by gap: puts are lists of (sign, maker) for each gap.

    two is told for the text that one leaves.
    """
    stays, puts = one
    place, more, told = 0, [[] for _ in puts], list(stays)
    for gap in range(len(text) + 1):
        for sign in puts[gap]:
            more[gap] += two[1][place] + ([sign] if two[0][place] else [])
            place += 1
        if gap == len(text):
            more[gap] += two[1][place]
        elif stays[gap]:
            more[gap] += two[1][place]
            told[gap] = two[0][place]
            place += 1
    return told, more


def plain_script_fates(script, text):
    """The fates of a script, joined step by step; None if it refuses."""
    told, now = ([True] * len(text), [[] for _ in range(len(text) + 1)]), text
    for number, step in enumerate(script.steps):
        fates = plain_fates(step, now, script.tongue)
        if fates is None:
            return None
        told = joined_fates(text, told, (fates[0], [[(sign, number) for sign in put] for put in fates[1]]))
        now = plain_result(now, fates)
    return told


def plain_hunks(stays, puts):
    """For each two signs that stay one behind the other, or the ends, what is between them."""
    ends = [-1] + [place for place, stay in enumerate(stays) if stay] + [len(stays)]
    hunks = [(one + 1, two, "".join(puts[one + 1:two + 1])) for one, two in zip(ends, ends[1:])]
    return tuple(hunk for hunk in hunks if hunk[0] < hunk[1] or hunk[2])


class FatesTest(unittest.TestCase):
    def check(self, script, text):
        told = plain_script_fates(script, text)
        if told is None:
            for call in (fates_of, origins_of, lambda *args: place_behind(*args, 0)):
                self.assertEqual(told_error(self, Refused, call, script, text),
                                 told_error(self, Refused, run_script, script, text))
            return
        fates = fates_of(script, text)
        self.assertIsInstance(fates, Fates)
        self.assertEqual(fates.result, run_script(script, text))
        self.assertEqual(fates.stays, tuple(told[0]))
        self.assertEqual(fates.puts, tuple("".join(sign for sign, _ in gap) for gap in told[1]))
        self.assertEqual(fates.makers, tuple(tuple(maker for _, maker in gap) for gap in told[1]))
        self.assertEqual(plain_result(text, (fates.stays, fates.puts)), fates.result)
        self.assertEqual(fates.hunks, plain_hunks(fates.stays, fates.puts))
        self.check_origins(script, text, fates)

    def check_origins(self, script, text, fates):
        origins = []
        for place in range(len(text) + 1):
            origins += [None] * len(fates.puts[place])
            if place < len(text) and fates.stays[place]:
                origins.append(place)
        self.assertEqual(origins_of(script, text), tuple(origins))
        for place in range(len(text)):
            behind = origins.index(place) if place in origins else None
            self.assertEqual(place_behind(script, text, place), behind)

    def test_single_steps(self):
        source = Random(391)
        for _ in range(300):
            script = Script([any_step(source, "ab'\n", True)], QUOTES)
            for text in ["", "\n", *(any_text(source, "aab'\n", 6) for _ in range(8))]:
                self.check(script, text)

    def test_scripts(self):
        source = Random(401)
        for _ in range(500):
            script = any_script(source, "ab\n", 6)
            for text in ["", *(any_text(source, "aab\n", 7) for _ in range(6))]:
                self.check(script, text)

    def test_two_scripts_one_behind_the_other(self):
        source = Random(402)
        for _ in range(300):
            one, two = any_script(source, "ab\n", 2), any_script(source, "ab\n", 2)
            if one.growth * two.growth > 36:
                continue
            both = Script(one.steps + two.steps)
            for text in [any_text(source, "aab\n", 6) for _ in range(4)]:
                first = plain_script_fates(one, text)
                second = first and plain_script_fates(two, run_script(one, text))
                if not second:
                    continue
                stays, puts = joined_fates(text, first, second)
                told = fates_of(both, text)
                self.assertEqual(told.stays, tuple(stays))
                self.assertEqual(told.puts, tuple("".join(sign for sign, _ in gap) for gap in puts))

    def told(self, steps, text):
        fates = fates_of(read_script("\n".join(steps)), text)
        return fates.stays, fates.puts, fates.makers, fates.result

    def test_each_kind_of_step_alone(self):
        for step, text, stays, puts in (
                ('replace "ab" by "xy"', "aab", (True, False, False), ("", "", "", "xy")),
                ('replace "a" by ""', "ab", (False, True), ("", "", "")),
                ('first "a" by "a"', "aa", (False, True), ("", "a", "")),
                ('once "b" by "c"', "ab", (True, False), ("", "", "c")),
                ("drop lines number 1", "a\nb", (False, False, True), ("",) * 4),
                ("drop lines last", "a\nb", (True, False, False), ("",) * 4),
                ("keep lines number 2", "a\nb\nc", (False, False, True, False, False), ("",) * 6),
                ("keep lines not all", "\n", (False,), ("", "")),
                ('ahead "x" on lines all', "a\n", (True, True), ("x", "", "x")),
                ('behind "x" on lines all', "a\n\nb", (True,) * 4, ("", "x", "x", "", "x")),
                ('above "x" on lines last', "a\nb", (True,) * 3, ("", "", "x\n", "")),
                ('below "" on lines all', "a\n", (True, True), ("", "\n", "\n")),
                ('strip "ab" on lines all', "ab\nabab", (False, False, True, False, False, True, True), ("",) * 8),
                ('want has "a"', "ab", (True, True), ("",) * 3), ("drop lines all", "", (), ("",))):
            makers = tuple((0,) * len(put) for put in puts)
            self.assertEqual(self.told([step], text)[:3], (stays, puts, makers), step)

    def test_a_sign_that_is_put_and_goes(self):
        self.assertEqual(self.told(['replace "a" by "b"', 'replace "b" by ""'], "a"), ((False,), ("", ""), ((), ()), ""))
        self.assertEqual(self.told(['replace "a" by "b"', 'replace "b" by "c"'], "ab"),
                         ((False, False), ("", "c", "c"), ((), (1,), (1,)), "cc"))
        self.assertEqual(self.told(['ahead "xy" on lines all', 'replace "xy" by "z"'], "a"),
                         ((True,), ("z", ""), ((1,), ()), "za"))

    def test_words_in_one_gap(self):
        self.assertEqual(self.told(['ahead "x" on lines all', 'ahead "y" on lines all'], "a")[1:3],
                         (("yx", ""), ((1, 0), ())))
        self.assertEqual(self.told(['behind "x" on lines all', 'behind "y" on lines all'], "a")[1:3],
                         (("", "xy"), ((), (0, 1))))
        self.assertEqual(self.told(['replace "a" by "x"', 'ahead "y" on lines last'], "a\n")[1:3],
                         (("", "x", "y"), ((), (0,), (1,))))
        self.assertEqual(self.told(['replace "a" by "xz"', 'replace "x" by "y"'], "ab")[1:3],
                         (("", "yz", ""), ((), (1, 0), ())))

    def test_at_the_end_of_the_text(self):
        self.assertEqual(self.told(['behind "x" on lines all', 'replace "x" by "y"'], "a")[1:3],
                         (("", "y"), ((), (1,))))
        self.assertEqual(self.told(['replace "a" by ""', 'behind "y" on lines all'], "ba")[1:3],
                         (("", "", "y"), ((), (), (1,))))
        self.assertEqual(self.told(["drop lines all", 'ahead "y" on lines all'], "a\nb")[1:3],
                         (("", "", "", "y"), ((), (), (), (1,))))

    def test_ahead_of_a_sign_that_was_put_and_goes(self):
        # The first y is put ahead of the second x, which goes itself, and the second one ahead of b.
        self.assertEqual(self.told(['replace "a" by "xx"', 'replace "x" by "y"'], "ab")[1:3],
                         (("", "yy", ""), ((), (1, 1), ())))
        self.assertEqual(self.told(['replace "b" by "q"', 'replace "a" by "c"', 'replace "q" by ""'], "ab")[1:3],
                         (("", "", "c"), ((), (), (1,))))

    def test_gaps_of_signs_that_went(self):
        # The a goes first; what is put then stands ahead of the next sign of the text.
        self.assertEqual(self.told(['replace "a" by ""', 'ahead "x" on lines all'], "ab")[:2],
                         ((False, True), ("", "x", "")))

    def test_hunks(self):
        for steps, text, hunks in (
                (['replace "a" by "x"'], "aba", ((0, 1, "x"), (2, 3, "x"))), (['replace "a" by "x"'], "aa", ((0, 2, "xx"),)),
                (['replace "a" by ""'], "baab", ((1, 3, ""),)), (['want not has "z"'], "ab", ()),
                (['behind "x" on lines all'], "a\n", ((1, 1, "x"), (2, 2, "x"))),
                (['behind "x" on lines all', 'ahead "y" on lines all'], "\n", ((0, 0, "yx"), (1, 1, "yx"))),
                (['replace "a" by "b"', 'behind "x" on lines all'], "ca", ((1, 2, "bx"),)),
                (["drop lines number 1"], "ab\ncd", ((0, 3, ""),)), (["drop lines all"], "", ())):
            self.assertEqual(fates_of(read_script("\n".join(steps)), text).hunks, hunks)

    def test_scripts_without_steps(self):
        fates = fates_of(script=Script([]), text="ab")
        self.assertEqual((fates.stays, fates.puts, fates.makers, fates.result, fates.hunks),
                         ((True, True), ("", "", ""), ((), (), ()), "ab", ()))
        empty = fates_of(Script([]), "")
        self.assertEqual((empty.stays, empty.puts, empty.makers), ((), ("",), ((),)))

    def test_kinds(self):
        script = Script([replace_step("a", "b", "quotes"), put_step("ahead", "'", plain_test("all"))], QUOTES)
        self.check(script, "a'a'\na")

    def test_long_texts(self):
        script = read_script('replace "a" by "xxxxxx"\nreplace "x" by "yyyyyy"\nreplace "yy" by "z"')
        fates = fates_of(script, "ab" * 1000)
        self.assertEqual((fates.puts[1], fates.makers[1], len(fates.result)), ("z" * 18, (2,) * 18, 19000))
        self.assertEqual(place_behind(script, "ab" * 1000, 1999), 18999)


class ErrorsTest(unittest.TestCase):
    def test_values_that_are_no_texts(self):
        refusing = read_script('want has "q"')
        for text in NO_TEXTS:
            for script in (refusing, Script([])):
                self.assertEqual(told_error(self, BadWord, fates_of, script, text), ("text",))
                self.assertEqual(told_error(self, BadWord, origins_of, script, text), ("text",))
                self.assertEqual(told_error(self, BadWord, place_behind, script, text, None), ("text",))

    def test_places_that_there_are_not(self):
        script = read_script('replace "a" by "bb"')
        for place in (None, "0", True, False, 1.0, [0], (0,), {}, object(), text_guard("has", "a"), -1, 3, 10 ** 50):
            self.assertEqual(told_error(self, BadNumber, place_behind, script, "abc", place), ("place", place))
            self.assertEqual(told_error(self, Refused, place_behind, read_script('once "q" by "q"'), "abc", place), (0,))
        self.assertEqual(told_error(self, BadNumber, place_behind, script, "", 0), ("place", 0))
        self.assertEqual([place_behind(script=script, text="abc", place=place) for place in range(3)], [None, 2, 3])
        self.assertEqual(origins_of(script=script, text="abc"), (None, None, 1, 2))


if __name__ == "__main__":
    unittest.main()
