"""Signs, texts, words, lines: [2] and [4]."""

import unittest

from textworkshop.signs import all_signs, is_sign, is_text, is_word, line_starts, lines_of, text_of

PERCENT = chr(37)
NO_TEXTS = ("\t", "\r", PERCENT, "\x7f", "\x1f", "\u00e9", "\x00", "a\tb", "ab" + PERCENT, "\u2028", "\ud800")
NO_STRINGS = (None, 5, True, b"a", ["a"], ("a",), {}, 1.5, object())


class SignsTest(unittest.TestCase):
    def test_there_are_95_signs_in_the_order_of_their_codes(self):
        signs = all_signs()
        self.assertEqual(signs, "\n" + "".join(chr(k) for k in range(32, 127) if k != 37))
        self.assertEqual(len(signs), 95)
        self.assertEqual(signs, "".join(sorted(signs)))

    def test_signs(self):
        for sign in all_signs():
            self.assertIs(is_sign(sign), True)
        for value in NO_TEXTS + NO_STRINGS + ("", "ab", "\n "):
            self.assertIs(is_sign(value), False, value)

    def test_texts(self):
        for text in ("", "a", "\n", all_signs(), "a\n\nb" * 500):
            self.assertIs(is_text(text), True)
        for value in NO_TEXTS + NO_STRINGS:
            self.assertIs(is_text(value), False, value)

    def test_words(self):
        for word in ("a", "\n", "abcdef", "a b\nc", "~"):
            self.assertIs(is_word(word), True)
        for value in NO_TEXTS + NO_STRINGS + ("", "abcdefg", "\n" * 7):
            self.assertIs(is_word(value), False, value)


class LinesTest(unittest.TestCase):
    def test_lines_of_a_text_and_back(self):
        for text, lines, starts in (
                ("", ("",), (0,)), ("\n", ("", ""), (0, 1)), ("a", ("a",), (0,)), ("a\n", ("a", ""), (0, 2)),
                ("\na", ("", "a"), (0, 1)), ("a\n\nb c", ("a", "", "b c"), (0, 2, 3))):
            with self.subTest(text=text):
                self.assertEqual(lines_of(text), lines)
                self.assertEqual(text_of(lines), text)
                self.assertEqual(text_of(list(lines)), text)
                self.assertEqual(line_starts(text), starts)
                self.assertIs(type(lines_of(text)), tuple)
                self.assertIs(type(line_starts(text)), tuple)

    def test_no_lines_are_the_empty_text(self):
        self.assertEqual(text_of([]), "")
        self.assertEqual(text_of(()), "")

    def test_one_line_more_than_newlines(self):
        text = "ab\n" * 700
        self.assertEqual(len(lines_of(text)), 701)
        self.assertEqual(line_starts(text)[-1], len(text))


if __name__ == "__main__":
    unittest.main()
