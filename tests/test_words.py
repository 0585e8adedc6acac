"""Words of a line: [21], [22], and the words and columns of [23]."""

import random
import re
import unittest

from tests.support import texts_up_to
from textworkshop.signs import all_signs
from textworkshop.words import line_words, quoted_text

PERCENT = chr(37)
MEANT = {'"': '"', "\\": "\\", "n": "\n"}


def plain_words(line):
    """The words of a line by patterns; the fault of a quoted word is looked for apart."""
    found, at = [], 0
    while at < len(line):
        name, number = re.compile("[a-z]+").match(line, at), re.compile("[0-9]+").match(line, at)
        quoted = re.compile(r'"((?:[^"\\]|\\["\\n])*)"').match(line, at)
        column = at + 1
        if line[at] == " ":
            at += 1
        elif name:
            found.append(("name", name.group(), column))
            at = name.end()
        elif number:
            told = number.group()
            faults = ([column + 1] if len(told) > 1 and told[0] == "0" else []) + ([column + 9] if len(told) > 9 else [])
            if faults:
                return (*found, ("bad number", faults[0], column))
            found.append(("number", int(told), column))
            at = number.end()
        elif quoted and set(quoted.group()) <= set(all_signs()):
            meant = re.sub(r"\\(.)", lambda part: MEANT[part.group(1)], quoted.group(1))
            found.append(("quoted", meant, column))
            at = quoted.end()
        elif line[at] == '"':
            return (*found, ("bad quoted", plain_fault(line, at) + 1, column))
        elif line[at] in "()":
            found.append(("bracket", line[at], column))
            at += 1
        else:
            return (*found, ("bad sign", column, column))
    return tuple(found)


def plain_fault(line, start):
    """The place of the fault of a quoted word that has one."""
    escaped = False
    for place in range(start + 1, len(line)):
        if escaped:
            if line[place] not in MEANT:
                return place - 1
            escaped = False
        elif line[place] == "\\":
            escaped = True
        elif line[place] not in all_signs():
            return place
    return len(line) - 1 if escaped else start


class WordsTest(unittest.TestCase):
    def test_all_short_lines(self):
        for line in texts_up_to(' "\\na0(;\t', 5):
            self.assertEqual(line_words(line), plain_words(line), line)

    def test_any_lines(self):
        source = random.Random(1)
        parts = ["has", "a", "0", "07", "12", "123456789", "1234567890", '"', '"a"', '"\\"', "\\", " ", "  ", "(", ")",
                 "n", '"\\n\\\\"', PERCENT, "A", "_", "\u00e9", '"x y(1"']
        for _ in range(5000):
            line = "".join(source.choice(parts) for _ in range(source.randint(0, 7)))
            self.assertEqual(line_words(line), plain_words(line), line)

    def test_words(self):
        for line, words in (
                ("", ()), ("   ", ()), ("abc", (("name", "abc", 1),)), (" a  b ", (("name", "a", 2), ("name", "b", 5))),
                ("ab12cd", (("name", "ab", 1), ("number", 12, 3), ("name", "cd", 5))),
                ("0", (("number", 0, 1),)), ("10", (("number", 10, 1),)), ("0a", (("number", 0, 1), ("name", "a", 2))),
                ('""', (("quoted", "", 1),)), ('"a""b"', (("quoted", "a", 1), ("quoted", "b", 4))),
                ('"\\\\" "\\"" "\\n"', (("quoted", "\\", 1), ("quoted", '"', 6), ("quoted", "\n", 11))),
                ("())", (("bracket", "(", 1), ("bracket", ")", 2), ("bracket", ")", 3))),
                ('has"b"1', (("name", "has", 1), ("quoted", "b", 4), ("number", 1, 7)))):
            with self.subTest(line=line):
                self.assertEqual(line_words(line), words)
        self.assertEqual(line_words(line="a"), (("name", "a", 1),))

    def test_numbers_of_nine_and_ten_figures(self):
        self.assertEqual(line_words(" 999999999"), (("number", 999999999, 2),))
        self.assertEqual(line_words(" 1000000000 x"), (("bad number", 11, 2),))
        self.assertEqual(line_words("12345678901234"), (("bad number", 10, 1),))
        self.assertEqual(line_words("0123456789"), (("bad number", 2, 1),))
        self.assertEqual(line_words("00"), (("bad number", 2, 1),))
        self.assertEqual(line_words("a 000000000"), (("name", "a", 1), ("bad number", 4, 3)))

    def test_faults_of_quoted_words(self):
        for line, fault in (
                ('"', 1), ('"a', 1), ('"a\\', 3), ('"\\', 2), ('"\\a"', 2), ('"\\N"', 2), ('"\\ "', 2), ('"a\t"', 3),
                ('"a\t', 3), ('"' + PERCENT, 2), ('"\u00e9"', 2), ('"ab\\x\t', 4), ('"\\"', 1), ('"\\n', 1),
                ('"\\' + "\t", 2)):
            with self.subTest(line=line):
                self.assertEqual(line_words(line), (("bad quoted", fault, 1),))
                self.assertEqual(line_words("a " + line + " b"), (("name", "a", 1), ("bad quoted", fault + 2, 3)))

    def test_faults_at_the_first_and_the_last_sign(self):
        for sign in (";", "A", "_", "\\", "'", "-", "\t", PERCENT, "\u00e9", "\u0660", "\u00b2", "\uff41", "+"):
            with self.subTest(sign=sign):
                self.assertEqual(line_words(sign + "abc"), (("bad sign", 1, 1),))
                self.assertEqual(line_words("abc" + sign), (("name", "abc", 1), ("bad sign", 4, 4)))
                self.assertEqual(line_words("12" + sign + '"'), (("number", 12, 1), ("bad sign", 3, 3)))
        self.assertEqual(line_words("a 01"), (("name", "a", 1), ("bad number", 4, 3)))
        self.assertEqual(line_words('a "'), (("name", "a", 1), ("bad quoted", 3, 3)))

    def test_nothing_behind_a_fault_is_told(self):
        self.assertEqual(line_words("a ; b ; c")[-1], ("bad sign", 3, 3))
        self.assertEqual(len(line_words("07 08")), 1)
        self.assertEqual(len(line_words('"\\x" "a"')), 1)

    def test_columns_of_the_document(self):
        for line, column in (
                ("number 07", 9), ("drop lines number 01", 20), ('drop lines has "a', 16), ('drop lines all "a', 16)):
            self.assertEqual(line_words(line)[-1][1], column)
        self.assertEqual([word[2] for word in line_words('replace "a" by "b" on lines')], [1, 9, 13, 16, 20, 23])


class QuotedTest(unittest.TestCase):
    def test_quoted_texts_are_read_back(self):
        for text in texts_up_to('"\\n\na', 4):
            self.assertEqual(line_words(quoted_text(text)), (("quoted", text, 1),))
            self.assertNotIn("\n", quoted_text(text))
        self.assertEqual(line_words(quoted_text(all_signs())), (("quoted", all_signs(), 1),))

    def test_how_they_are_written(self):
        self.assertEqual([quoted_text(text) for text in ("", "a b", '"', "\\", "\n", "n\\n")],
                         ['""', '"a b"', '"\\""', '"\\\\"', '"\\n"', '"n\\\\n"'])
        self.assertEqual(quoted_text(word="~'"), "\"~'\"")


if __name__ == "__main__":
    unittest.main()
