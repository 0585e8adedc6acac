"""Texts that are edited: [18]."""

import random
import time
import unittest

from tests.support import any_text, any_tongue, plain_kinds, told_error
from textworkshop.errors import BadPlace
from textworkshop.rereading import Rereading
from textworkshop.tongues import Tongue

NO_PLACES = (-1, None, "1", True, False, 1.0, (1,), [])


def plain_touched(tongue, old, start, stop, put):
    """The new text, and the shortest stretch with all signs put in and all others of other kinds."""
    new = old[:start] + put + old[stop:]
    before, after = plain_kinds(tongue.text, old), plain_kinds(tongue.text, new)
    touched = [place for place in range(start) if before[place] != after[place]]
    touched += range(start, start + len(put))
    touched += [place for place in range(start + len(put), len(new))
                if before[place - len(put) + stop - start] != after[place]]
    return new, (touched[0], touched[-1] + 1) if touched else (start, start)


class RereadingTest(unittest.TestCase):
    def check_edit(self, reading, start, stop, put):
        told = plain_touched(reading.tongue, reading.text, start, stop, put)
        if start == stop:
            self.assertEqual((reading.write(start, put), reading.text), (told[1], told[0]))
        else:
            self.assertEqual((reading.cut(start, stop), reading.text), (told[1], told[0]))
        self.assertEqual(reading.kinds(), plain_kinds(reading.tongue.text, reading.text))

    def test_any_edits(self):
        source = random.Random(1)
        for _ in range(150):
            signs = source.choice(["!#", "*/", "'\"!"])
            tongue = any_tongue(source, signs, source.randint(0, 4))
            reading = Rereading(tongue, any_text(source, signs + "a\n", 20))
            for _ in range(25):
                start = source.randint(0, len(reading.text))
                if source.random() < 0.5 and len(reading.text) > start:
                    self.check_edit(reading, start, source.randint(start + 1, len(reading.text)), "")
                else:
                    self.check_edit(reading, start, start, any_text(source, signs + "a\n\n", 5))

    def test_edits_of_newlines(self):
        for told in ("quote ' to ' line", "quote ' to '", "remark # to line escape !"):
            for text in ("a'\nb\n'c", "#!\na\n!", "\n\n\n", "'\n'\n'\n"):
                for start in range(len(text) + 1):
                    for put in ("\n", "'", "!", "\n'\n", "#\n"):
                        self.check_edit(Rereading(Tongue(told), text), start, start, put)
                    for stop in range(start + 1, len(text) + 1):
                        self.check_edit(Rereading(Tongue(told), text), start, stop, "")

    def test_first_and_last_place_and_empty_edits(self):
        reading = Rereading(Tongue("remark /* to */"), "a*/")
        self.assertEqual([reading.write(0, ""), reading.write(3, ""), reading.cut(0, 0), reading.cut(3, 3)],
                         [(0, 0), (3, 3), (0, 0), (3, 3)])
        self.assertEqual([reading.write(0, "/*"), reading.kinds()], [(0, 5), "rrrrr"])
        self.assertEqual([reading.write(5, "/*"), reading.kinds()], [(5, 7), "rrrrrrr"])
        self.assertEqual([reading.cut(0, 1), reading.kinds()], [(0, 4), "ccccrr"])
        self.assertEqual([reading.cut(5, 6), reading.text, reading.kinds()], [(4, 5), "*a*//", "ccccc"])
        self.assertEqual([reading.cut(0, 5), reading.text, reading.kinds()], [(0, 0), "", ""])
        self.assertEqual([reading.write(0, "/*"), reading.kinds()], [(0, 2), "rr"])

    def test_the_stretch_reaches_ahead_of_the_edit(self):
        reading = Rereading(Tongue("remark // to line"), "a/\nb")
        self.assertEqual([reading.write(2, "/"), reading.kinds()], [(1, 3), "crrcc"])
        self.assertEqual([reading.cut(2, 3), reading.kinds()], [(1, 2), "cccc"])

    def test_the_stretch_is_the_shortest_one(self):
        reading = Rereading(Tongue("quote ' to '"), "a'b'c'd'e")
        self.assertEqual([reading.write(2, "'"), reading.kinds()], [(2, 10), "cqqcqqqcqq"])
        reading = Rereading(Tongue("quote ' to '"), "a'b'c")
        self.assertEqual([reading.cut(1, 2), reading.kinds()], [(1, 4), "ccqq"])

    def test_places_that_there_are_not(self):
        reading = Rereading(Tongue("quote ' to '"), "a'b")
        for place in NO_PLACES + (4, 99):
            self.assertEqual(told_error(self, BadPlace, reading.write, place, "x"), (place,))
            self.assertEqual(told_error(self, BadPlace, reading.cut, place, 1), (place,))
            self.assertEqual(told_error(self, BadPlace, reading.cut, 0, place), (place,))
            self.assertEqual(told_error(self, BadPlace, reading.cut, place, -7), (place,))
        self.assertEqual(told_error(self, BadPlace, reading.cut, 2, 1), (1,))
        self.assertEqual(told_error(self, BadPlace, reading.cut, 3, 2), (2,))
        self.assertEqual((reading.text, reading.kinds()), ("a'b", "cqq"))
        self.assertEqual((reading.write(3, "'"), reading.cut(4, 4)), ((3, 4), (4, 4)))

    def test_attributes_and_names(self):
        tongue = Tongue("quote ' to '")
        reading = Rereading(tongue=tongue, text="a")
        self.assertEqual((reading.tongue, reading.text, reading.kinds()), (tongue, "a", "c"))
        reading.write(place=1, text="'")
        reading.cut(start=0, stop=1)
        self.assertEqual((reading.text, reading.kinds(), type(reading.write(0, ""))), ("'", "q", tuple))

    def test_only_lines_near_the_edit_are_read_again(self):
        reading = Rereading(Tongue("remark # to line\nquote ' to ' line"), "a#b'c\n" * 20000)
        start = time.process_time()
        for place in range(0, 60000, 600):
            self.assertEqual(reading.write(place * 2, "x"), (place * 2, place * 2 + 1))
        self.assertLess(time.process_time() - start, 5)


if __name__ == "__main__":
    unittest.main()
