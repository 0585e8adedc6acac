"""Readings, sign by sign: [17]."""

import random
import unittest

from tests.support import any_text, any_tongue, plain_kinds, texts_up_to
from textworkshop.readings import ReadingMachine
from textworkshop.tongues import Tongue


def signs_of(tongue):
    """The signs of all marks and escapes of a tongue."""
    told = set()
    for rule in tongue.rules:
        words = rule.split(" ")
        told |= set(words[1]) | (set(words[3]) if words[3] != "line" else set())
        if "escape" in words:
            told |= set(words[words.index("escape") + 1])
    return told


def stands_of(machine, signs):
    met = {machine.beginning: True}
    work = [machine.beginning]
    for stand in work:
        for sign in signs:
            to = machine.moved(stand, sign)[0]
            if to not in met:
                met[to] = True
                work.append(to)
    return work


def is_plain(value):
    if isinstance(value, tuple):
        return all(is_plain(part) for part in value)
    return isinstance(value, (int, str))


class ReadingsTest(unittest.TestCase):
    def check_text(self, tongue, signs):
        machine = ReadingMachine(tongue)
        stand, pairs = machine.beginning, []
        named = signs_of(tongue)
        for sign in signs:
            stand, told = machine.moved(stand, sign)
            self.assertIs(type(told), tuple)
            pairs.extend(told)
            if sign is None or sign not in named:
                self.assertEqual(machine.ended(stand), ())
        self.assertIs(type(machine.ended(stand)), tuple)
        pairs.extend(machine.ended(stand))
        text = "".join(" " if sign is None else sign for sign in signs)
        self.assertEqual(pairs, list(zip(signs, plain_kinds(tongue.text, text))), (tongue.text, signs))

    def test_pairs_are_the_signs_with_their_kinds(self):
        source = random.Random(1)
        for _ in range(300):
            signs = source.choice(["!#", "*/", "'\"!", "#"])
            tongue = any_tongue(source, signs, source.randint(0, 6))
            for _ in range(20):
                self.check_text(tongue, source.choices(list(signs) + ["\n", None, "a"], k=source.randint(0, 25)))

    def test_all_short_texts(self):
        for told in ("quote ' to '' doubled", "remark # to ## nested 3 escape !", "remark '# to '\nquote ' to '#'",
                     "remark ( to )( nested 2 line", "quote ' to ' escape ' line", "remark ## to line\nquote # to !#"):
            tongue = Tongue(told)
            signs = "".join(sorted(signs_of(tongue)))[:3]
            for text in texts_up_to(signs + "\n", 6 if len(signs) < 3 else 5):
                self.check_text(tongue, list(text))

    def test_no_more_stands_than_the_weight(self):
        source = random.Random(2)
        for _ in range(250):
            signs = source.choice(["!#", "*/'", "#"])
            tongue = any_tongue(source, signs, source.randint(0, 6))
            machine = ReadingMachine(tongue)
            stands = stands_of(machine, [*signs_of(tongue), "\n", None])
            self.assertLessEqual(len(stands), tongue.weight, tongue.text)
            self.assertTrue(all(isinstance(stand, tuple) and is_plain(stand) for stand in stands))

    def test_the_weight_is_met(self):
        for told in ("", "remark # to line", "quote ' to '", "quote '' to '' doubled", "quote <! to -->",
                     "remark # to line escape !", "quote ' to ;; escape ! line"):
            tongue = Tongue(told)
            self.assertEqual(len(stands_of(ReadingMachine(tongue), [*signs_of(tongue), "\n", None])), tongue.weight)

    def test_equal_stands_go_on_alike(self):
        source = random.Random(3)
        for _ in range(60):
            tongue = any_tongue(source, "!#", source.randint(1, 4))
            machine = ReadingMachine(tongue)
            first = {}
            for text in texts_up_to("!#\n", 4):
                stand, pairs = machine.beginning, []
                for sign in text:
                    stand, told = machine.moved(stand, sign)
                    pairs.extend(told)
                waiting = len(text) - len(pairs)
                if stand in first:
                    other, less = first[stand]
                    self.assertEqual(waiting, less)
                    behind = any_text(source, "!#\n", 6)
                    self.assertEqual(tongue.kinds(text + behind)[len(text) - waiting:],
                                     tongue.kinds(other + behind)[len(other) - less:])
                first.setdefault(stand, (text, waiting))

    def test_what_is_told_is_settled(self):
        source = random.Random(4)
        for _ in range(80):
            tongue = any_tongue(source, "!#", source.randint(1, 4))
            machine = ReadingMachine(tongue)
            text = any_text(source, "!#\n", 8)
            stand, kinds = machine.beginning, ""
            for sign in text:
                stand, told = machine.moved(stand, sign)
                kinds += "".join(kind for _, kind in told)
            for behind in texts_up_to("!#\n ", 3):
                self.assertTrue(plain_kinds(tongue.text, text + behind).startswith(kinds))

    def test_none_stands_for_a_sign_of_no_mark_only(self):
        machine = ReadingMachine(Tongue("quote ' to ' escape !"))
        quoted = machine.moved(machine.beginning, "'")[0]
        escaped = machine.moved(quoted, "!")[0]
        for stand in (machine.beginning, quoted, escaped):
            to, told = machine.moved(stand, None)
            self.assertEqual((to, [kind for _, kind in told]),
                             (machine.moved(stand, "a")[0], [kind for _, kind in machine.moved(stand, "a")[1]]))
            self.assertEqual((told[-1][0], machine.moved(stand, "a")[1][-1][0]), (None, "a"))
        self.assertEqual(machine.moved(escaped, "'")[0], quoted)

    def test_attributes(self):
        tongue = Tongue("remark # to line")
        machine = ReadingMachine(tongue=tongue)
        self.assertEqual((machine.tongue, machine.ended(machine.beginning)), (tongue, ()))
        self.assertEqual(machine.beginning, ReadingMachine(Tongue("remark # to line")).beginning)


if __name__ == "__main__":
    unittest.main()
