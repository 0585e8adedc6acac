"""Sets of texts by readings: [19] and [20]."""

import random
import unittest

from tests.support import any_tongue, plain_kinds, texts_up_to, told_error, tongue_of_weight
from textworkshop.errors import TooHeavy
from textworkshop.statetables import StateTable
from textworkshop.textsets import TextSet, all_texts, having_word, no_texts, one_text
from textworkshop.tongues import Tongue
from textworkshop.tonguesets import closed_texts, idle_rules, lean_tongue, texts_read_apart, texts_read_as

THREE = Tongue("remark // to line\nremark /* to */\nquote ' to ' escape ! line")


def any_tongues(seed, many, rules=3):
    source = random.Random(seed)
    for _ in range(many):
        signs = source.choice(["!#", "*/", "'!"])
        yield signs, any_tongue(source, signs, rules), any_tongue(source, signs, rules)


def kinds_sets():
    rows = [[1, 2, 0, 3], [1, 0, 3, 3], [2, 2, 1, 3], [3, 3, 3, 3]]
    return [having_word("rc"), having_word("q"), one_text("rrc"), ~having_word("cr"), all_texts(), no_texts(),
            TextSet(StateTable("crq", rows, [0, 2]))]


class ClosedTextsTest(unittest.TestCase):
    def test_against_the_tongue(self):
        for signs, tongue, other in any_tongues(1, 60):
            for one in (tongue, other):
                closed = closed_texts(one)
                for text in texts_up_to(signs + "\na", 4):
                    self.assertEqual(text in closed, one.is_closed(text), (one.text, text))

    def test_closed_sets(self):
        self.assertEqual(closed_texts(Tongue("")), all_texts())
        self.assertEqual(closed_texts(tongue=Tongue("remark # to line")), all_texts())
        self.assertEqual(closed_texts(Tongue("remark # to !!!!")).behind("#"),
                         having_word("!!!!") & closed_texts(Tongue("remark # to !!!!")).behind("#"))
        self.assertEqual(closed_texts(THREE).least_text(), "")

    def test_closing_is_the_least_text_behind(self):
        for _, tongue, _ in any_tongues(2, 40):
            for text in texts_up_to("!#'", 3):
                self.assertEqual(tongue.closing(text), closed_texts(tongue).behind(text).least_text())


class ReadAsTest(unittest.TestCase):
    def test_against_the_kinds(self):
        for signs, tongue, _ in any_tongues(3, 25):
            for kinds in kinds_sets():
                told = texts_read_as(tongue, kinds)
                for text in texts_up_to(signs + "\na", 4):
                    self.assertEqual(text in told, plain_kinds(tongue.text, text) in kinds, (tongue.text, text))

    def test_signs_that_are_no_kinds_play_no_part(self):
        self.assertTrue(texts_read_as(THREE, having_word("a")).is_empty())
        self.assertEqual(texts_read_as(tongue=THREE, kinds=~having_word("\n")), all_texts())
        self.assertEqual(texts_read_as(Tongue(""), having_word("cc")).many_of(1), 0)

    def test_kinds_do_not_tell_whether_a_text_is_closed(self):
        told = texts_read_as(THREE, one_text("rr"))
        self.assertTrue("//" in told and "/*" in told)
        self.assertEqual(("//" in closed_texts(THREE), "/*" in closed_texts(THREE)), (True, False))

    def test_weights_at_2500_and_above(self):
        def exactly(states):
            return one_text("c" * (states - 2))

        self.assertEqual((exactly(50).table.states, exactly(61).table.states), (50, 61))
        told = texts_read_as(tongue_of_weight(50), exactly(50))
        self.assertTrue("a" * 48 in told and "a" * 47 not in told)
        self.assertEqual(told_error(self, TooHeavy, texts_read_as, tongue_of_weight(41), exactly(61)), (2501,))
        self.assertEqual(told_error(self, TooHeavy, texts_read_as, tongue_of_weight(51), exactly(50)), (2550,))
        self.assertTrue("a" * 2498 in texts_read_as(Tongue(""), exactly(2500)))
        self.assertEqual(told_error(self, TooHeavy, texts_read_as, Tongue(""), exactly(2501)), (2501,))


class ApartTest(unittest.TestCase):
    def test_against_the_kinds(self):
        for signs, one, two in any_tongues(4, 80):
            apart = texts_read_apart(one, two)
            self.assertEqual(apart, texts_read_apart(two, one))
            for text in texts_up_to(signs + "\na", 4):
                self.assertEqual(text in apart, plain_kinds(one.text, text) != plain_kinds(two.text, text))

    def test_the_first_text_read_apart(self):
        for one, two, text in (
                ("remark # to line", "remark # to line escape !", "#!\n"), ("remark ( to )", "quote ( to )", "("),
                ("remark ( to ) nested 2", "remark ( to ) nested 3", "((())\n"),
                ("remark # to !", "remark # to ! line", "#\n"), ("", "quote '' to line", "''"),
                ("quote ! to ##", "quote ! to ## escape #", "!##\n"), ("quote # to line", "quote # to line\n"
                                                                      "remark ## to line", "##")):
            with self.subTest(one=one, two=two):
                least = texts_read_apart(Tongue(one), Tongue(two)).least_text()
                signs = "".join(sorted(set(one + two) & set("!#'()"))) + "\n "
                told = [t for t in texts_up_to(signs, len(text)) if plain_kinds(one, t) != plain_kinds(two, t)]
                self.assertEqual((least, told[0]), (text, text))

    def test_doubled_marks_of_pieces_that_meet(self):
        self.assertTrue(texts_read_apart(Tongue("quote ' to '"), Tongue("quote ' to ' doubled")).is_empty())
        one, two = "quote ' to '''", "quote ' to ''' doubled"
        least = texts_read_apart(Tongue(one), Tongue(two)).least_text()
        self.assertNotEqual(plain_kinds(one, least), plain_kinds(two, least))
        self.assertTrue(all(plain_kinds(one, t) == plain_kinds(two, t) for t in texts_up_to("'a", len(least) - 1)))

    def test_weights_at_2500_and_above(self):
        fifty = tongue_of_weight(50)
        self.assertTrue(texts_read_apart(fifty, fifty).is_empty())
        less = fifty.without(2)
        self.assertFalse(texts_read_apart(fifty, less).is_empty())
        self.assertEqual(told_error(self, TooHeavy, texts_read_apart, tongue_of_weight(41), tongue_of_weight(61)),
                         (2501,))
        self.assertEqual(told_error(self, TooHeavy, texts_read_apart, tongue_of_weight(61), tongue_of_weight(41)),
                         (2501,))

    def test_one_heavy_tongue_beside_none(self):
        heavy = Tongue("\n".join(f"remark {mark}((( to )))) nested 4 escape !" for mark in "#$&*+,"))
        self.assertEqual(texts_read_apart(heavy, Tongue("")).least_text(), "#(((")


class IdleTest(unittest.TestCase):
    def alike(self, signs, one, two):
        return all(plain_kinds(one.text, text) == plain_kinds(two.text, text)
                   for text in texts_up_to(signs + "\na", 5))

    def test_against_the_kinds(self):
        for signs, tongue, _ in any_tongues(5, 40, 4):
            if tongue.weight > 50:
                continue
            idle = [k for k in range(len(tongue)) if self.alike(signs, tongue, tongue.without(k))]
            told = idle_rules(tongue)
            self.assertLessEqual(set(told), set(idle))
            for index in set(idle) - set(told):
                least = texts_read_apart(tongue, tongue.without(index)).least_text()
                self.assertGreater(len(least), 5)
                self.assertNotEqual(tongue.kinds(least), tongue.without(index).kinds(least))
            lean = lean_tongue(tongue)
            self.assertTrue(texts_read_apart(tongue, lean).is_empty())
            self.assertEqual(idle_rules(lean), [])

    def test_rules_that_are_idle_only_together(self):
        # Behind #! or #!? the mark !? ends nothing; either of both longer rules is enough for this.
        rules = ["remark # to !?", "remark #! to !?", "remark #!? to !?"]
        self.assertEqual(idle_rules(Tongue("\n".join(rules))), [1, 2])
        self.assertEqual(lean_tongue(Tongue("\n".join(rules))).rules, (rules[0], rules[2]))
        self.assertEqual(lean_tongue(Tongue("\n".join(reversed(rules)))).rules, (rules[1], rules[0]))
        self.assertEqual(idle_rules(Tongue("\n".join(rules[::2]))), [])
        self.assertEqual(idle_rules(Tongue("\n".join(rules[:2]))), [])

    def test_rules_that_are_all_idle_beside_one(self):
        tongue = Tongue("remark ## to line\nremark # to line\nremark ### to line")
        self.assertEqual((idle_rules(tongue), lean_tongue(tongue).rules), ([0, 2], ("remark # to line",)))

    def test_left_out_from_the_first_one_on(self):
        for rules, idle, lean in (
                (("remark / to line", "remark // to line"), [1], ("remark / to line",)),
                (("remark // to line", "remark / to line"), [0], ("remark / to line",)),
                (("remark // to line", "quote / to line"), [], ("remark // to line", "quote / to line")),
                ((), [], ()), (("quote ' to '",), [], ("quote ' to '",))):
            tongue = Tongue("\n".join(rules))
            with self.subTest(rules=rules):
                self.assertEqual(idle_rules(tongue), idle)
                self.assertEqual(lean_tongue(tongue), Tongue("\n".join(lean)))
                self.assertEqual(tongue.rules, rules)

    def test_weights_at_2500_and_above(self):
        fifty = tongue_of_weight(50)
        self.assertEqual((idle_rules(fifty), lean_tongue(fifty)), ([], fifty))
        self.assertEqual(told_error(self, TooHeavy, idle_rules, tongue_of_weight(51)), (2601,))
        self.assertEqual(told_error(self, TooHeavy, lean_tongue, tongue_of_weight(51)), (2601,))


if __name__ == "__main__":
    unittest.main()
