"""Scripts that do the same, and scripts that give texts back: [53] to [55]."""

import unittest
from random import Random

from tests.asking import (
    SIGNS, any_question, check_first, dense_set, is_in, light_script, light_set, made, result_of, result_of_both)
from tests.support import texts_up_to, told_error
from textworkshop.alikes import unlike_text, unrestored_text
from textworkshop.errors import TooHeavy
from textworkshop.scripts import Script
from textworkshop.signs import all_signs
from textworkshop.textsets import (
    all_texts, beginning_with, each_line, having_word, joined_texts, no_texts, one_text)
from textworkshop.tongues import Tongue

QUOTES, SLASHES = Tongue("quote ' to '"), Tongue("remark // to line\nquote ' to '")


class UnlikeTest(unittest.TestCase):
    def check(self, one, other, under, texts):
        def shows(text):
            return is_in(under, text) and result_of(one, text) != result_of(other, text)

        told = unlike_text(one, other, under=under)
        check_first(self, told, texts, shows)
        self.assertEqual(unlike_text(first=other, second=one, under=under), told)
        return told

    def test_against_runs_of_all_short_texts(self):
        source = Random(541)
        same = 0
        for _ in range(250):
            one, other, under, texts = any_question(source)
            if source.random() < 0.3:
                steps = list(one.steps)
                source.shuffle(steps)
                other = Script(steps, one.tongue)
            try:
                same += self.check(one, other, under, texts) is None
            except TooHeavy:
                pass
        self.assertGreater(same, 20)

    def test_light_scripts(self):
        source = Random(542)
        texts = list(texts_up_to(SIGNS, 4))
        for _ in range(250):
            try:
                self.check(light_script(source, 2), light_script(source, 2), light_set(source), texts)
            except TooHeavy:
                pass

    def test_the_order_of_signs(self):
        # The newline is the first sign, and of the signs that nothing names the blank is.
        self.assertEqual(unlike_text(made("drop lines number 2"), Script([])), "\n")
        self.assertEqual(unlike_text(made('behind "x" on lines short 0'), made('behind "x" on lines short 1')), " ")
        self.assertEqual(unlike_text(made('behind "x" on lines short 0'), made('behind "x" on lines short 1'),
                                     under=~having_word(" ")), "!")
        # The results differ at unlike signs: the later one of two places is the second sign.
        one, other = made("drop lines number 1"), made("drop lines number 2")
        line = one_text(" ") | one_text("!") | one_text("a") | one_text("b")
        under = joined_texts(joined_texts(line, one_text("\n")), line)
        self.assertEqual(unlike_text(one, other, under=under), " \n!")
        self.assertEqual(unlike_text(one, other, under=under - having_word(" ")), "!\na")
        self.assertEqual(unlike_text(one, other, under=under - beginning_with(" ")), "!\n ")
        self.assertEqual(unlike_text(one, other, under=one_text("b\na") | one_text("b\nb")), "b\na")

    def test_unlike_later_than_two_signs(self):
        one, other = made("keep lines number 3"), made("keep lines number 2")
        told = unlike_text(one, other, under=each_line(having_word("x")))
        self.assertEqual(told, "x\nx")
        self.assertEqual(unlike_text(made('replace "aab" by "c"'), made('replace "aab" by "c"', 'first "aabaab" by "x"')),
                         None)

    def test_scripts_that_refuse(self):
        once, want = made('once "a" by "b"'), made('want has "a"', 'replace "a" by "b"')
        self.assertEqual(unlike_text(once, want), "aa")
        # Refused by both, by unlike steps.
        self.assertIsNone(unlike_text(made('once "a" by "a"', 'once "b" by "b"'), made('once "b" by "b"', 'once "a" by "a"')))
        none, never = made('want is "a" and is "b"'), made('want has "a"', 'want not has "a"')
        self.assertIsNone(unlike_text(none, never))
        self.assertEqual(unlike_text(none, made("drop lines all")), "")

    def test_scripts_without_steps(self):
        self.assertIsNone(unlike_text(Script([]), Script([], QUOTES)))
        self.assertIsNone(unlike_text(Script([]), made('replace "a" by "a"')))
        self.assertEqual(unlike_text(Script([]), made('replace "ab" by "a"')), "ab")

    def test_unlike_tongues(self):
        told = 'replace "a" by "b" in quotes'
        one, other = made(told, tongue=QUOTES), made(told, tongue=SLASHES)
        self.assertEqual(unlike_text(one, other), "//'a")
        self.assertIsNone(unlike_text(one, other, under=~having_word("/")))
        self.assertIsNone(unlike_text(made(told, tongue=QUOTES), made(told, tongue=Tongue("quote ' to ' doubled"))))
        self.assertEqual(unlike_text(made(told, tongue=QUOTES), made('replace "a" by "b"')), "a")

    def test_sets_of_one_text_of_words_and_of_none(self):
        one, other = made('replace "a" by "b"'), made('first "a" by "b"')
        self.assertIsNone(unlike_text(one, other, under=no_texts()))
        self.assertIsNone(unlike_text(one, other, under=one_text("xax")))
        self.assertEqual(unlike_text(one, other, under=one_text("xaxa")), "xaxa")
        self.assertEqual(unlike_text(one, other, under=having_word("bb")), "aabb")
        self.assertEqual(unlike_text(one, other, under=all_texts()), "aa")
        self.assertEqual(unlike_text(one, other, under=None), "aa")

    def test_a_set_that_names_all_signs(self):
        dense = dense_set(40, all_signs()[1:], 7)
        told = unlike_text(made('replace "q" by "r"'), Script([]), under=dense)
        self.assertTrue("q" in told and told in dense)
        self.assertIsNone(unlike_text(made('replace "q" by "q"'), Script([]), under=dense))

    def test_long_texts(self):
        texts = one_text("ab" * 100)
        self.assertIsNone(unlike_text(made('replace "ab" by "c"'), made('replace "a" by ""', 'replace "b" by "c"'),
                                      under=texts))
        self.assertEqual(unlike_text(made('replace "ab" by "c"'), made('replace "ba" by "c"'), under=texts), "ab" * 100)


class RestoreTest(unittest.TestCase):
    def check(self, one, other, under, texts):
        def shows(text):
            return is_in(under, text) and result_of(one, text) is not None and result_of_both(one, other, text) != text

        told = unrestored_text(one, other, under=under)
        check_first(self, told, texts, shows)
        return told

    def test_against_runs_of_all_short_texts(self):
        source = Random(543)
        texts = list(texts_up_to(SIGNS, 4))
        for _ in range(200):
            light = light_script(source, 2), light_script(source, 2), light_set(source), texts
            for question in (light, any_question(source)):
                try:
                    self.check(*question)
                except TooHeavy:
                    pass

    def test_what_is_given_back(self):
        mark, clean = made('ahead "#" on lines all'), made('strip "#" on lines all')
        self.assertEqual([unrestored_text(mark, clean), unrestored_text(clean, mark)], [None, ""])
        self.assertIsNone(unrestored_text(clean, mark, under=each_line(one_text("#") | one_text("#x"))))
        below, drop = made('below "x" on lines number 1'), made("drop lines number 2")
        self.assertIsNone(unrestored_text(first=below, second=drop))
        self.assertEqual(unrestored_text(drop, below), "")
        self.assertEqual(unrestored_text(made('first "a" by "b"'), made('first "b" by "a"')), "b")

    def test_refusals(self):
        # What the first script refuses need not be given back; what the second one refuses is not given back.
        self.assertIsNone(unrestored_text(made('want is "a" and is "b"'), made("drop lines all")))
        self.assertIsNone(unrestored_text(made('want is "b"', "drop lines all"), made('ahead "b" on lines all')))
        self.assertEqual(unrestored_text(made("drop lines all"), made('want has "b"')), "")
        self.assertEqual(unrestored_text(Script([]), made('want not has "b"')), "b")
        self.assertEqual(unrestored_text(made('want has "a"'), made('want not has "b"')), "ab")
        once, back = made('once "a" by "b"'), made('once "b" by "a"')
        self.assertEqual(unrestored_text(once, back), "ab")
        self.assertIsNone(unrestored_text(once, back, under=~having_word("b")))

    def test_unlike_tongues(self):
        one = made('replace "a" by "b" in quotes', tongue=QUOTES)
        back = made('replace "b" by "a" in quotes', tongue=SLASHES)
        self.assertEqual(unrestored_text(one, back), "'b")
        self.assertEqual(unrestored_text(one, back, under=~having_word("b")), "//'a")

    def test_more_than_six_steps_together(self):
        turn = [f'replace "{one}" by "{other}"' for one, other in zip("abcdef", "bcdefg")]
        self.assertEqual(unrestored_text(made(*turn), made(*turn)), "a")
        self.assertIsNone(unrestored_text(made(*turn), made(*turn), under=~having_word("a") & each_line(one_text("x"))))


class ErrorsTest(unittest.TestCase):
    def test_too_heavy(self):
        some = made('once "abcde" by "x"', 'first "a" by "b"', "drop lines all")
        for ask in (unlike_text, unrestored_text):
            self.assertEqual(told_error(self, TooHeavy, ask, some, some), (10000,))


if __name__ == "__main__":
    unittest.main()
