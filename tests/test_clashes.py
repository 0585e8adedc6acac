"""Texts that become one: [59], [60]."""

import unittest
from random import Random

from tests.asking import SIGNS, any_question, is_in, light_script, light_set, made, result_of, set_of_states
from tests.support import texts_up_to, told_error
from textworkshop.alikes import unrestored_text
from textworkshop.clashes import clash_texts
from textworkshop.errors import TooHeavy
from textworkshop.guardsets import guard_set
from textworkshop.guardtexts import read_guard
from textworkshop.scripts import Script
from textworkshop.textsets import all_texts, having_word, no_texts, one_text
from textworkshop.tongues import Tongue


def fewest_signs(script, under, texts):
    """The fewest signs of both texts of a clash among these texts, None if there is none."""
    firsts, fewest = {}, None
    for text in texts:
        result = result_of(script, text)
        if result is None or not is_in(under, text):
            continue
        if result in firsts:
            many = len(text) + len(firsts[result])
            fewest = many if fewest is None else min(many, fewest)
        firsts.setdefault(result, text)
    return fewest


class ClashTest(unittest.TestCase):
    def check(self, script, under, texts):
        told = clash_texts(script, under=under)
        plain = fewest_signs(script, under, texts)
        if told is None:
            self.assertIsNone(plain)
            return None
        self.assertIs(type(told), tuple)
        one, other = told
        self.assertNotEqual(one, other)
        self.assertIsNotNone(result_of(script, one))
        self.assertEqual(result_of(script, one), result_of(script, other))
        self.assertTrue(is_in(under, one) and is_in(under, other))
        is_long = max(len(one), len(other)) > len(texts[-1]) or not set(one + other) <= set("".join(texts))
        if plain is None:
            self.assertTrue(is_long)
        else:
            self.assertLessEqual(len(one) + len(other), plain)
            self.assertTrue(is_long or len(one) + len(other) == plain)
        return told

    def test_against_runs_of_all_short_texts(self):
        source = Random(591)
        texts = list(texts_up_to(SIGNS, 5))
        without = 0
        for _ in range(150):
            script, _, under, some = any_question(source)
            for question in ((light_script(source, 2), light_set(source), texts), (script, under, some)):
                try:
                    without += self.check(*question) is None
                except TooHeavy:
                    pass
        self.assertGreater(without, 30)

    def test_the_fewest_signs_of_both_together(self):
        for lines, clash in (
                (['replace "ab" by "c"'], ["ab", "c"]), (['strip "#" on lines all'], ["", "#"]),
                (['first "a" by ""'], ["", "a"]), (['ahead "#" on lines begins "a"'], ["#a", "a"]),
                (['replace "abcdef" by ""'], ["", "abcdef"]), (['want has "xyz"', 'replace "b" by "a"'], ["axyz", "bxyz"]),
                (["drop lines all"], ["", "\n"]), (['replace "ab" by "ba" on lines number 2'], ["\nab", "\nba"])):
            told = clash_texts(script=made(*lines))
            self.assertEqual((len("".join(told)), result_of(made(*lines), told[0])),
                             (len("".join(clash)), result_of(made(*lines), told[1])))
        self.assertEqual(sorted(clash_texts(made('replace "ab" by "c"'))), ["ab", "c"])
        # One text is much longer than the other one.
        self.assertEqual(sorted(clash_texts(made('replace "aaaaaa" by "b"'))), ["aaaaaa", "b"])

    def test_signs_that_go_while_the_other_way_has_told_more(self):
        for lines, many in (
                (['drop lines number 1', 'once "b" by "\\n"'], 5), (['below "" on lines not last', 'want has "a"', (
                    'replace "ba" by "\\n"')], 6), (['drop lines number 1', 'once "a" by "b"', 'above "x" on lines all'], 5)):
            script = made(*lines)
            self.assertEqual(many, fewest_signs(script, None, list(texts_up_to("\n ab", 4))))
            self.assertEqual(len("".join(clash_texts(script))), many)

    def test_scripts_without_a_clash(self):
        for lines in ([], ['ahead "#" on lines all'], ['behind "x" on lines last'], ['below "" on lines all'],
                      ['replace "a" by "a"'], ['want has "b"'], ['replace "\\n" by "\\n"', 'above "q" on lines all']):
            self.assertIsNone(clash_texts(made(*lines)), lines)
        # No clash, though no script with one step restores it.
        self.assertIsNone(clash_texts(made('want not has "b"', 'replace "a" by "b"')))
        # What a script has no clash in may be restored by another one.
        self.assertIsNone(unrestored_text(made('ahead "#" on lines all'), made('strip "#" on lines all')))

    def test_texts_that_are_refused_are_none(self):
        self.assertIsNone(clash_texts(made('want is "a" and is "b"')))
        self.assertIsNone(clash_texts(made('want is "ab"', "drop lines all")))
        self.assertIsNone(clash_texts(made('want has "a"', 'want not has "a"', "drop lines all")))

    def test_under_sets(self):
        once = made('once "a" by "b"')
        self.assertIsNone(clash_texts(once, under=~having_word("b")))
        self.assertEqual(len("".join(clash_texts(once))), 4)
        self.assertIsNone(clash_texts(made("drop lines all"), under=one_text("ab")))
        self.assertIsNone(clash_texts(made("drop lines all"), under=no_texts()))
        self.assertEqual(sorted(clash_texts(made("drop lines all"), under=one_text("ab") | one_text("ax\n"))), ["ab", "ax\n"])
        self.assertEqual(sorted(clash_texts(made('replace "a" by "b"'), under=having_word("xy"))), ["axy", "bxy"])

    def test_signs_that_nothing_names(self):
        # Lines of one sign, of which none is named, are lost: they are a clash only if they are unlike.
        line = guard_set(read_guard('each line short 1 and not has "\\n" and not is ""'))
        told = clash_texts(made("drop lines all"), under=line)
        self.assertEqual([len(text) for text in told], [1, 1])
        self.assertNotEqual(told[0], told[1])
        self.assertIsNone(clash_texts(made('replace "a" by "b"'), under=line & ~one_text("b")))

    def test_with_a_tongue(self):
        script = made('replace "a" by "b" in quotes', tongue=Tongue("quote ' to '"))
        told = clash_texts(script)
        self.assertEqual(sorted(told), ["'a", "'b"])
        self.assertIsNone(clash_texts(script, under=~having_word("'")))

    def test_script_and_set_count_twice(self):
        script = made('once "abcde" by "x"', "drop lines all")
        self.assertEqual(len("".join(clash_texts(script))), 11)
        self.assertEqual(told_error(self, TooHeavy, clash_texts, script, under=set_of_states(3)), (150 * 150,))
        self.assertEqual(told_error(self, TooHeavy, clash_texts, script, under=set_of_states(2)), (10000,))
        self.assertIsNotNone(clash_texts(script, under=all_texts()))
        self.assertIsNone(clash_texts(Script([]), under=set_of_states(50)))


if __name__ == "__main__":
    unittest.main()
