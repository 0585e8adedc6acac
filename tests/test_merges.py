"""Two scripts on one text: [67] to [70]."""

import unittest
from random import Random

from tests.asking import any_question, light_script, made, result_of
from tests.support import any_text, told_error
from textworkshop.errors import Conflict, Refused
from textworkshop.merges import conflict_pieces, merged_hunks, merged_pieces, merged_text
from textworkshop.origins import fates_of
from textworkshop.runs import refused_step
from textworkshop.scripts import Script
from textworkshop.scripttexts import read_script
from textworkshop.tongues import Tongue

CAPITAL, SHORTER, MARK = (read_script(told) for told in (
    'replace "b" by "B"', "drop lines number 1", 'behind "x" on lines last'))


def scripts_and_texts(seed, many):
    source = Random(seed)
    for number in range(many):
        if number % 2:
            one, other = light_script(source, 2), light_script(source, 2)
        else:
            one, other, _, _ = any_question(source)
        if source.random() < 0.2:
            other = one
        for _ in range(12):
            text = any_text(source, "aab'#\nx", 8)
            if result_of(one, text) is not None and result_of(other, text) is not None:
                yield text, one, other


def apart(one, other):
    """Whether a sign lies between two hunks."""
    return one[1] < other[0] or other[1] < one[0]


def put_in(text, hunks):
    """The text with hunks put in."""
    parts, at = [], 0
    for start, stop, word in hunks:
        parts += [text[at:start], word]
        at = stop
    return "".join(parts) + text[at:]


def plain_pieces(text, one, other):
    """By the words of the definition: tuples (start, stop, mine, yours, who) of all pieces, from sign to sign."""
    both = [fates_of(one, text), fates_of(other, text)]
    stay = [at for at in range(len(text)) if both[0].stays[at] and both[1].stays[at]]
    found = []
    for start, stop in zip([0, *[at + 1 for at in stay]], [*stay, len(text)]):
        there, touch, keeps = [], [], False
        for fates in both:
            told = fates.puts[start]
            for at in range(start, stop):
                told += (text[at] if fates.stays[at] else "") + fates.puts[at + 1]
            there.append(told)
            touch.append(not all(fates.stays[start:stop]) or any(fates.puts[start:stop + 1]))
            keeps = keeps or any(fates.stays[start:stop])
        who = {(False, False): None, (True, False): "one", (False, True): "other"}.get(tuple(touch), "both")
        if who == "both" and (keeps or there[0] != there[1]):
            who = "conflict"
        found.append((start, stop, *there, who))
    return found


class MergeTest(unittest.TestCase):
    def test_pieces_and_conflicts_by_the_fates_of_both(self):
        conflicts = merged = 0
        for text, one, other in scripts_and_texts(671, 400):
            plain = plain_pieces(text, one, other)
            wrong = [piece[:4] for piece in plain if piece[4] == "conflict"]
            self.assertEqual(conflict_pieces(text, one, other), tuple(wrong))
            hunks = [fates_of(one, text).hunks, fates_of(other, text).hunks]
            # There is no conflict exactly if each two hunks are equal or apart.
            self.assertEqual(wrong == [], all(
                mine == yours or apart(mine, yours) for mine in hunks[0] for yours in hunks[1]))
            if wrong:
                conflicts += 1
                for ask in (merged_text, merged_hunks, merged_pieces):
                    self.assertEqual(told_error(self, Conflict, ask, text, one, other), wrong[0][:2])
                continue
            merged += 1
            told = merged_hunks(text, one, other)
            self.assertEqual(told, tuple(sorted(set(hunks[0] + hunks[1]))))
            self.assertEqual(put_in(text, told), merged_text(text, one, other))
            self.check_parts(text, plain, merged_pieces(text, one, other), merged_text(text, one, other))
        self.assertGreater(min(conflicts, merged), 200)

    def check_parts(self, text, plain, parts, whole):
        """Merged pieces put together are the text; those that are touched stand as they are told."""
        self.assertEqual("".join(part for part, _ in parts), whole)
        told = [(mine if who != "other" else yours, who) for _, _, mine, yours, who in plain if who is not None]
        self.assertEqual([part for part in parts if part[1] is not None], told)
        self.assertTrue(all(part for part, who in parts if who is None))
        self.assertFalse([1 for (_, one), (_, two) in zip(parts, parts[1:]) if one is None and two is None])
        stay = "".join(text[piece[1]] for piece in plain[:-1])
        self.assertEqual("".join(part for part, who in parts if who is None), stay)

    def test_the_same_from_the_other_side(self):
        turned = {"one": "other", "other": "one"}
        for text, one, other in scripts_and_texts(672, 150):
            self.assertEqual(conflict_pieces(text, other, one), tuple(
                (start, stop, yours, mine) for start, stop, mine, yours in conflict_pieces(text, one, other)))
            if not conflict_pieces(text, one, other):
                self.assertEqual(merged_text(text, other, one), merged_text(text, one, other))
                self.assertEqual(merged_hunks(text, other, one), merged_hunks(text, one, other))
                self.assertEqual(merged_pieces(text, other, one), tuple(
                    (part, turned.get(who, who)) for part, who in merged_pieces(text, one, other)))

    def test_ordinary_merges(self):
        self.assertEqual(merged_text(text="ab\ncd", one=CAPITAL, other=MARK), "aB\ncdx")
        self.assertEqual(merged_hunks(text="ab\ncd", one=CAPITAL, other=MARK), ((1, 2, "B"), (5, 5, "x")))
        self.assertEqual(merged_pieces(text="ab\ncd", one=MARK, other=CAPITAL),
                         (("a", None), ("B", "other"), ("\ncd", None), ("x", "one")))
        self.assertEqual(conflict_pieces(text="ab\ncd", one=CAPITAL, other=SHORTER), ((0, 3, "aB\n", ""),))
        self.assertEqual(told_error(self, Conflict, merged_text, "ab\ncd", CAPITAL, SHORTER), (0, 3))
        self.assertEqual(told_error(self, Conflict, merged_hunks, "ab", CAPITAL, MARK), (1, 2))
        for value in (merged_hunks("ba", CAPITAL, MARK), merged_pieces("ba", CAPITAL, MARK),
                      merged_pieces("ba", CAPITAL, MARK)[0], conflict_pieces("b", CAPITAL, SHORTER)):
            self.assertIs(type(value), tuple)

    def test_signs_that_stay_part_what_can_be_done_side_by_side(self):
        x, y = made('replace "a" by "x"'), made('replace "b" by "y"')
        self.assertEqual(conflict_pieces("ab", x, y), ((0, 2, "xb", "ay"),))
        self.assertEqual((conflict_pieces("a b", x, y), merged_text("a b", x, y)), ((), "x y"))
        self.assertEqual(conflict_pieces("a bab", x, y), ((2, 5, "bxb", "yay"),))

    def test_shared_pieces(self):
        self.assertEqual([merged_text("a", MARK, MARK), merged_pieces("a", MARK, MARK)], ["ax", (("a", None), ("x", "both"))])
        self.assertEqual(merged_hunks("ab\ncd", SHORTER, SHORTER), ((0, 3, ""),))
        self.assertEqual(merged_pieces("ab\ncd", SHORTER, SHORTER), (("", "both"), ("cd", None)))
        self.assertEqual(merged_pieces("", MARK, MARK), (("x", "both"),))
        # The same text in its place, but one lets the sign stay: in conflict.
        self.assertEqual(conflict_pieces("a", made('replace "a" by "xa"'), made('ahead "x" on lines all')),
                         ((0, 1, "xa", "xa"),))

    def test_merging_hangs_on_fates_not_on_looks(self):
        same, drop = made('replace "a" by "a"'), made("drop lines all")
        self.assertEqual(conflict_pieces("a b", same, drop), ((0, 3, "a b", ""),))
        self.assertEqual(merged_pieces("ab", same, Script([])), (("a", "one"), ("b", None)))
        self.assertEqual(merged_text("b b", same, drop), "")
        # A sign that was put and taken away again is not put.
        gone = made('ahead "x" on lines all', 'strip "x" on lines all')
        self.assertEqual(merged_pieces("ab", gone, MARK), (("ab", None), ("x", "other")))

    def test_untouched_texts(self):
        self.assertEqual(merged_pieces("ab", Script([]), Script([])), (("ab", None),))
        self.assertEqual((merged_pieces("", Script([]), Script([])), merged_hunks("", Script([]), Script([]))), ((), ()))
        self.assertEqual(merged_text("a\n", Script([]), Script([])), "a\n")

    def test_unlike_tongues(self):
        one = made('replace "a" by "x" in quotes', tongue=Tongue("quote ' to '"))
        other = made('replace "a" by "y" in remarks', tongue=Tongue("remark # to line"))
        self.assertEqual(merged_text("'a' #a", one, other), "'x' #y")
        self.assertEqual(conflict_pieces("'#a", one, other), ((2, 3, "x", "y"),))

    def test_refusals_of_one_ahead_of_those_of_other(self):
        one, other = made('replace "q" by "r"', 'want has "a"'), made('want has "b"', "drop lines all")
        self.assertEqual([refused_step(one, "c"), refused_step(other, "c")], [1, 0])
        for ask in (conflict_pieces, merged_text, merged_hunks, merged_pieces):
            self.assertEqual(told_error(self, Refused, ask, "c", one, other), (1,))
            self.assertEqual(told_error(self, Refused, ask, "c", other, one), (0,))
            self.assertEqual(told_error(self, Refused, ask, "a", one, other), (0,))
            self.assertEqual(told_error(self, Refused, ask, "b", one, other), (1,))


if __name__ == "__main__":
    unittest.main()
