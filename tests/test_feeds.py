"""Texts that come sign by sign: [49] to [52]."""

import unittest
from random import Random

from tests.asking import any_question, light_script, made, result_of
from tests.support import any_text, texts_up_to, told_error
from textworkshop.errors import Refused, TooHeavy
from textworkshop.feeds import Feed
from textworkshop.runs import refused_step
from textworkshop.scripts import Script
from textworkshop.tongues import Tongue


def fed(script, text):
    feed = Feed(script)
    feed.push(text)
    return feed


def shared(one, other):
    many = 0
    while many < min(len(one), len(other)) and one[many] == other[many]:
        many += 1
    return one[:many]


class FeedTest(unittest.TestCase):
    def any_script(self, source):
        """A script that is not too heavy, and the signs of its texts."""
        while True:
            script, _, _, texts = any_question(source)
            if source.random() < 0.3:
                script = light_script(source, 3)
            try:
                Feed(script)
                return script, "".join(sorted(set("".join(texts))))
            except TooHeavy:
                pass

    def check_goings_on(self, script, feed, signs, length):
        """Goings on tried one by one: they begin with what is told, and two of them show that no more is certain."""
        results = [result_of(script, feed.text + more) for more in texts_up_to(signs, length)]
        results = [result for result in results if result is not None]
        parted = feed.parted()
        if feed.is_lost():
            self.assertEqual((results, parted), ([], None))
            return
        for result in results:
            self.assertTrue(result.startswith(feed.told))
        if parted is None:
            self.assertLessEqual(set(results), {feed.told})
            return
        one, other = [result_of(script, feed.text + more) for more in parted]
        self.assertIsNotNone(one)
        self.assertIsNotNone(other)
        self.assertNotEqual(one, other)
        self.assertEqual(shared(one, other), feed.told)

    def check_remainder(self, script, feed):
        number = refused_step(script, feed.text)
        if number is not None:
            self.assertEqual(told_error(self, Refused, feed.remainder), (number,))
        else:
            self.assertEqual(feed.told + feed.remainder(), result_of(script, feed.text))

    def test_every_beginning_of_short_texts(self):
        source = Random(501)
        for _ in range(250):
            script, signs = self.any_script(source)
            # z, y and x are named by nothing, and not the least ones of these signs.
            for text in [any_text(source, signs + "zyx", 4) for _ in range(3)]:
                feed = Feed(script)
                self.check_goings_on(script, feed, signs, 2)
                for place, sign in enumerate(text):
                    ahead = feed.told
                    self.assertEqual(ahead + feed.push(sign), feed.told)
                    self.assertEqual(feed.text, text[:place + 1])
                    self.check_goings_on(script, feed, signs, 2)
                    self.check_remainder(script, feed)

    def test_texts_cut_anyhow(self):
        source = Random(502)
        for _ in range(200):
            script, signs = self.any_script(source)
            text = any_text(source, signs + "zyx", 12)
            whole, feed, place = fed(script, text), Feed(script), 0
            told = feed.told
            while place < len(text):
                stop = min(len(text), place + source.randint(0, 4))
                told += feed.push(text[place:stop])
                place = stop
            self.assertEqual((feed.told, feed.is_lost(), feed.text), (whole.told, whole.is_lost(), text))
            self.assertEqual(told, feed.told)
            self.assertEqual(feed.push(""), "")

    def test_examples_in_words(self):
        script = made('replace "ab" by "c"')
        self.assertEqual([fed(script, "a").told, fed(script, "aa").told], ["", "a"])
        script = made('once "a" by "b"')
        self.assertEqual([fed(script, "a").told, fed(script, "a").is_lost(), fed(script, "aa").is_lost()],
                         ["b", False, True])
        script = made("keep lines last")
        for text in texts_up_to("a\n", 4):
            self.assertEqual(fed(script, text).told, "")
        self.assertEqual(Feed(made('want begins "ab"')).told, "ab")

    def test_what_is_returned_and_set(self):
        feed = Feed(script=made('replace "ab" by "c"'))
        self.assertEqual((feed.text, feed.told), ("", ""))
        self.assertEqual((feed.push(text="xa"), feed.text, feed.told, feed.remainder()), ("x", "xa", "x", "a"))
        self.assertIs(feed.is_lost(), False)
        self.assertIs(type(feed.parted()), tuple)

    def test_scripts_without_steps(self):
        for script in (Script([]), Script([], Tongue("quote ' to '"))):
            feed = Feed(script)
            self.assertEqual([feed.told, feed.push("a\n'"), feed.told, feed.remainder()], ["", "a\n'", "a\n'", ""])
            one, other = feed.parted()
            self.assertEqual(shared(one, other), "")
            self.assertNotEqual(one, other)

    def test_a_beginning_that_is_lost_at_once(self):
        for script in (made('want has "a" and not has "a"'), made('drop lines all', 'want has "a"')):
            feed = Feed(script)
            self.assertEqual((feed.is_lost(), feed.told, feed.parted()), (True, "", None))
            self.assertEqual((feed.push("abc"), feed.told, feed.text, feed.is_lost()), ("", "", "abc", True))
            self.assertEqual(told_error(self, Refused, feed.remainder), (len(script.steps) - 1,))

    def test_what_is_told_behind_a_beginning_that_is_lost(self):
        feed = Feed(made('replace "x" by "y"', "want at most 3 signs"))
        self.assertEqual([feed.push("xx"), feed.push("xxz"), feed.is_lost(), feed.told], ["yy", "y", True, "yyy"])
        self.assertEqual((feed.text, feed.parted()), ("xxxxz", None))
        self.assertEqual(told_error(self, Refused, feed.remainder), (1,))
        again = Feed(made('want begins "ab"'))
        self.assertEqual((again.push("b"), again.told, again.is_lost()), ("", "ab", True))

    def test_a_refused_text_that_is_not_lost(self):
        feed = Feed(made('replace "q" by "r"', 'want has "x"'))
        self.assertEqual((feed.push("qq"), feed.is_lost()), ("rr", False))
        self.assertEqual(told_error(self, Refused, feed.remainder), (1,))
        self.assertEqual((feed.push("x"), feed.remainder()), ("x", ""))

    def test_all_goings_on_with_one_result(self):
        self.assertIsNone(Feed(made("drop lines all")).parted())
        feed = Feed(made('want is "abc" or is "abd"', 'replace "c" by "d"'))
        self.assertEqual((feed.told, feed.parted()), ("abd", None))
        feed.push("ab")
        self.assertEqual((feed.told, feed.parted(), feed.is_lost()), ("abd", None, False))
        self.assertEqual(told_error(self, Refused, feed.remainder), (0,))

    def test_one_result_is_the_beginning_of_the_others(self):
        feed = Feed(made('want begins "ab"'))
        one, other = feed.parted()
        self.assertEqual(shared(one, other), "ab")
        self.assertNotEqual(one, other)

    def test_signs_that_nothing_names(self):
        script = made('keep lines last')
        for one in ("x", "~", " ", "!"):
            for other in ("y", "}", "!", " "):
                self.assertEqual(fed(script, one + other).remainder(), one + other)
        # The first line is left or it is not: what is certain is what it has in common with the second one.
        script = made("keep lines from last to last", 'replace "q" by "r"')
        either = made('drop lines begins "#"', 'first "\\n" by ""', "keep lines last")
        for one in "xy !~":
            for other in "yx !~":
                self.assertEqual(fed(script, one + "\n" + other).told, "")
                self.assertEqual(fed(either, one + "\n" + other).told, "")
        ends = made('want is "x" or is "y"', 'replace "q" by "r"')
        self.assertEqual([fed(ends, sign).told for sign in "xyz"], ["x", "y", ""])

    def test_results_that_part_at_unlike_signs_of_the_text(self):
        # Behind "xy" and "z" the first sign comes out or the one behind the newline does.
        script = made("keep lines from number 2 to last")
        for text in ("x\nx", "x\ny", "x\n", "~\n~~"):
            feed = fed(script, text)
            self.assertEqual(feed.told, text[2:])
        script = made('drop lines has "#"')
        for text, told in (("x\ny", "x"), ("x", ""), ("x\n", "x"), ("#\nx", ""), ("x#\ny\nz", "y")):
            self.assertEqual(fed(script, text).told, told)

    def test_long_texts(self):
        feed = Feed(made('replace "ab" by "cdefgh"', "keep lines not last"))
        told = feed.push("xab\n" * 500)
        self.assertEqual(feed.told, told)
        self.assertEqual(feed.told + feed.remainder(), "xcdefgh\n" * 499 + "xcdefgh")
        last = Feed(made("keep lines last"))
        self.assertEqual(last.push("ab " * 660), "")
        self.assertEqual(last.remainder(), "ab " * 660)

    def test_more_never_changes_what_was_told(self):
        source = Random(503)
        for _ in range(100):
            script, signs = self.any_script(source)
            feed, told = Feed(script), ""
            for sign in any_text(source, signs, 8):
                self.assertTrue(feed.told.startswith(told))
                told = feed.told
                feed.push(sign)


if __name__ == "__main__":
    unittest.main()
