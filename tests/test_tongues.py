"""Tongues: [13] to [16]."""

import random
import time
import unittest
from itertools import permutations, product

from tests.support import any_text, any_tongue, plain_kinds, texts_up_to, told_error, tongue_of_weight
from textworkshop.errors import BadNumber, BadPlace, BadText
from textworkshop.signs import all_signs
from textworkshop.tongues import Tongue

SIX = "\n".join(f"quote {mark} to line" for mark in "!#$&*+")
PERCENT = chr(37)


def wrong(text):
    try:
        Tongue(text)
    except BadText as error:
        return error.line, error.column
    return None


def right_lines():
    """All right lines with a few marks, as tuples of words."""
    marks = ("#", "*/")
    for kind, opener, closer in product(("remark", "quote"), marks, (*marks, "line")):
        for nested, escape, doubled, line in product((0, 1), repeat=4):
            if nested and (kind == "quote" or closer in ("line", opener)):
                continue
            if doubled and (nested or closer == "line") or line and closer == "line":
                continue
            for depth, sign in product("23" if nested else "2", "#!" if escape else "#"):
                options = ("nested", depth) * nested + ("escape", sign) * escape
                yield (kind, opener, "to", closer) + options + ("doubled",) * doubled + ("line",) * line


class FormTest(unittest.TestCase):
    def test_every_line_of_some_words(self):
        right = set(right_lines())
        starts = {words[:k] for words in right for k in range(len(words) + 1)}
        vocabulary = ("remark", "quote", "#", "*/", "to", "line", "nested", "2", "escape", "doubled", "", "x")
        source = random.Random(1)
        told = list(right)
        for words in sorted(right):
            for _ in range(20):
                place = source.randint(0, len(words))
                changed = source.choice((1, 0))
                told.append(words[:place] + (source.choice(vocabulary),) + words[place + changed:])
                told.append(words[:place] + words[place + 1:])
                told.append(words[:place])
        for words in told:
            line = " ".join(words)
            words = tuple(line.split(" "))
            first = [k for k in range(len(words)) if words[:k + 1] not in starts]
            if words in right or not line:
                place = None
            elif first:
                place = 1, len(" ".join(words[:first[0]])) + (2 if first[0] else 1)
            else:
                place = 1, len(line) + 1
            with self.subTest(line=line):
                self.assertEqual(wrong(line), place)

    def test_places_at_which_a_line_goes_wrong(self):
        for line, column in (
                (" ", 1), (" remark # to line", 1), ("Remark # to line", 1), ("remarks # to line", 1), ("remark", 7),
                ("remark ", 8), ("remark  # to line", 8), ("remark a to line", 8), ("remark #### to line", None),
                ("remark ##### to line", 8), ("remark _ to line", 8), ("remark # t", 10), ("remark #", 9),
                ("remark # ", 10), ("remark # To line", 10), ("remark # to", 12), ("remark # to ", 13),
                ("remark # to  line", 13), ("remark # to lines", 13), ("remark # to 1", 13), ("remark # to line ", 18),
                ("remark # to line line", 18), ("remark # to line doubled", 18), ("remark # to line nested 2", 18),
                ("remark # to # nested 2", 15), ("remark # to * nested 2", None), ("remark # to * nested", 21),
                ("remark # to * nested ", 22), ("remark # to * nested 1", 22), ("remark # to * nested 5", 22),
                ("remark # to * nested 22", 22), ("remark # to * nested 4 nested 4", 24), ("remark # to * escape", 21),
                ("remark # to * escape ab", 22), ("remark # to * escape !!", 22), ("remark # to * escape a", 22),
                ("remark # to * escape * escape *", 24), ("remark # to * nested 2 doubled", 24),
                ("remark # to * doubled nested 2", 23), ("remark # to * doubled escape !", 23),
                ("remark # to * line line", 20), ("remark # to * line escape !", 20), ("remark # to * line doubled", 20),
                ("quote # to * nested 2", 14), ("remark # to * ", 15), ("remark\t# to *", 1),
                ("remark " + PERCENT + " to *", 8), ("remark # to * escape " + PERCENT, 22), ("remark \u00a7 to *", 8)):
            with self.subTest(line=line):
                self.assertEqual(wrong(line), column and (1, column))

    def test_the_first_wrong_line_counts(self):
        self.assertEqual(wrong("remark # to *\nquote # to *"), (2, 7))
        self.assertEqual(wrong("remark # to *\nquote ## to *\nremark # to line"), (3, 8))
        self.assertEqual(wrong("remark # to *\n"), (2, 1))
        self.assertEqual(wrong("\nremark # to *"), (1, 1))
        self.assertEqual(wrong("\n"), (1, 1))
        self.assertEqual(wrong("remark # to *\n\nremark"), (2, 1))
        self.assertEqual(wrong("remark # to *\nremark ! t\nremark"), (2, 10))

    def test_six_rules_and_a_seventh_line(self):
        self.assertEqual(len(Tongue(SIX)), 6)
        self.assertEqual(wrong(SIX + "\nquote - to line"), (7, 1))
        self.assertEqual(wrong(SIX + "\n"), (7, 1))
        self.assertEqual(wrong(SIX + "\n\n\n"), (7, 1))
        self.assertEqual(wrong(SIX[:-1] + "?x\nquote - to line"), (6, 1 + len("quote + to ")))

    def test_no_rules(self):
        tongue = Tongue("")
        self.assertEqual((len(tongue), tongue.rules, list(tongue), tongue.weight, tongue.text), (0, (), [], 1, ""))
        self.assertEqual((tongue.kinds("a'\n"), list(tongue.pieces("a")), tongue.closing("x")), ("ccc", [], ""))

    def test_signs_of_marks(self):
        for sign in all_signs():
            fits = not sign.isalnum() and sign not in " \n_"
            if sign != "\n":
                self.assertEqual(wrong(f"quote {sign} to line"), None if fits else (1, 7), sign)
            if sign not in "\n ":
                self.assertEqual(wrong(f"quote !{sign}! to !"), None if fits else (1, 7), sign)

    def test_attributes(self):
        text = "remark // to line\nquote ' to ' escape !"
        tongue = Tongue(text=text)
        self.assertEqual((tongue.text, tongue.rules, list(tongue), len(tongue)),
                         (text, tuple(text.split("\n")), text.split("\n"), 2))
        self.assertTrue(tongue == Tongue(text) and tongue != Tongue("") and not tongue == text and tongue != None)  # noqa


class KindsTest(unittest.TestCase):
    def test_kinds_of_all_short_texts(self):
        source = random.Random(2)
        for _ in range(250):
            tongue = any_tongue(source, source.choice(["!#", "*/", "'\"!", "#"]), source.randint(0, 6))
            for text in texts_up_to("".join(sorted(set(tongue.text) & set("!#*/'\"")))[:3] + "\n", 4):
                self.assertEqual(tongue.kinds(text), plain_kinds(tongue.text, text), (tongue.text, text))
            for _ in range(20):
                text = any_text(source, "!#*/'\"a \n", 40)
                self.assertEqual(tongue.kinds(text), plain_kinds(tongue.text, text), (tongue.text, text))

    def test_sentences_one_by_one(self):
        for told, text, kinds in (
                # The longest opening mark counts, whichever rule comes first.
                ("quote / to /\nremark // to line", "a//b/\n/c", "crrrrcqq"),
                ("remark /* to */", "/*/ */a", "rrrrrrc"), ("remark // to line", "a//b\nc", "crrrcc"),
                # An escape takes the next sign whatever it is, also a newline or an escape.
                ("quote ' to ' escape ! line", "'!'!!'a", "qqqqqqc"), ("quote ' to ' escape ! line", "'!\n'a", "qqqqc"),
                ("quote ' to ' escape ! line", "'a!", "qqq"), ("quote ' to ' escape '", "'a'b'c", "qqqqqq"),
                ("remark # to line escape !", "#!\na\nb", "rrrrcc"),
                # Doubled closing marks belong to the piece, or two pieces follow.
                ("quote ' to ' doubled", "'a''b'c", "qqqqqqc"), ("quote ' to '", "'a''b'c", "qqqqqqc"),
                ("quote ' to ** doubled", "'***a", "qqqcc"), ("quote ' to ** doubled", "'****a**b", "qqqqqqqqc"),
                # Nested: depth up to K, the longer mark counts, further openings are plain signs.
                ("remark ( to ) nested 2", "(((a))b)", "rrrrrrcc"), ("remark ( to ) nested 3", "(((a))b)", "rrrrrrrr"),
                ("remark ( to (( nested 2", "((((((", "rrrrrr"), ("remark (( to ( nested 2", "((((((a", "rrrrrrc"),
                ("remark ( to )( nested 2", "()()(a", "rrrcrr"), ("remark ( to ) nested 2 escape (", "(())a", "rrrrc"),
                # The option line ends the piece ahead of the newline.
                ("quote ' to ' line", "'a\nb'", "qqccq"), ("remark ( to ) nested 2 line", "((\n)", "rrcc"),
                ("quote ' to '", "'a\nb'", "qqqqq"), ("quote ' to ' line", "'\n", "qc")):
            with self.subTest(told=told, text=text):
                self.assertEqual(Tongue(told).kinds(text), kinds)
                self.assertEqual(plain_kinds(told, text), kinds)

    def test_pieces_have_the_kinds(self):
        source = random.Random(3)
        for _ in range(200):
            tongue = any_tongue(source, "!#/", source.randint(1, 6))
            text = any_text(source, "!#/a\n", 30)
            pieces = list(tongue.pieces(text))
            kinds = ["c"] * len(text)
            for rule, start, end in pieces:
                self.assertTrue(text.startswith(tongue.rules[rule].split(" ")[1], start))
                kinds[start:end] = tongue.rules[rule][0] * (end - start)
            self.assertEqual("".join(kinds), tongue.kinds(text))
            self.assertEqual(pieces, sorted(pieces, key=lambda piece: piece[1]))
            self.assertTrue(all(a[2] <= b[1] for a, b in zip(pieces, pieces[1:])))
            for place in range(len(text)):
                told = [piece for piece in pieces if piece[1] <= place < piece[2]]
                self.assertEqual(tongue.piece_at(text, place), told[0] if told else None)

    def test_neighbouring_pieces_are_told_apart(self):
        tongue = Tongue("quote ' to '\nremark # to line")
        self.assertEqual(list(tongue.pieces("'a''b'#")), [(0, 0, 3), (0, 3, 6), (1, 6, 7)])
        self.assertEqual(list(tongue.pieces("#\n#")), [(1, 0, 1), (1, 2, 3)])
        self.assertEqual(tongue.piece_at("'a''b'", 3), (0, 3, 6))
        self.assertEqual(type(tongue.piece_at("'a''b'", 2)), tuple)

    def test_pieces_are_a_generator(self):
        pieces = Tongue("quote ' to '").pieces("'a'")
        self.assertIs(iter(pieces), pieces)
        self.assertEqual(next(pieces), (0, 0, 3))

    def test_places_that_there_are_not(self):
        tongue = Tongue("quote ' to '")
        for place in (-1, 3, 99, None, "a", True, 1.0, (0,)):
            self.assertEqual(told_error(self, BadPlace, tongue.piece_at, "'a'", place), (place,))
        self.assertEqual(told_error(self, BadPlace, tongue.piece_at, "", 0), (0,))

    def test_texts_of_2000_signs(self):
        tongue = Tongue("remark /* to */\nquote ' to ' escape ! line\nremark (( to )) nested 4\nremark # to line")
        text = any_text(random.Random(4), "/*'!()#\nab", 4000)[:2000].ljust(2000, "x")
        start = time.process_time()
        self.assertEqual(tongue.kinds(text), plain_kinds(tongue.text, text))
        self.assertLess(time.process_time() - start, 5)


class ClosedTest(unittest.TestCase):
    def test_closed_texts_and_kinds_of_lines(self):
        source = random.Random(5)
        for _ in range(150):
            tongue = any_tongue(source, "!#'", source.randint(0, 4))
            for _ in range(30):
                text = any_text(source, "!#'a\n", 9)
                kinds = plain_kinds(tongue.text, text + "\n")
                self.assertEqual(tongue.is_closed(text), kinds[-1] == "c")
                self.assertEqual(kinds[:-1], tongue.kinds(text))
                told = "c" + "".join(kinds[k] for k, sign in enumerate(text) if sign == "\n")
                self.assertEqual(tongue.line_kinds(text), told)
                if tongue.is_closed(text):
                    behind = any_text(source, "!#'a\n", 9)
                    self.assertEqual(tongue.kinds(text + "\n" + behind), kinds + tongue.kinds(behind))

    def test_closing_is_the_first_of_the_shortest(self):
        source = random.Random(6)
        for _ in range(120):
            signs = source.choice(["!#", "*/", "'"])
            tongue = any_tongue(source, signs, source.randint(1, 4))
            for _ in range(6):
                text = any_text(source, signs + "a\n", 7)
                found = [one for one in texts_up_to(signs + "\n !", 4) if tongue.is_closed(text + one)]
                closing = tongue.closing(text)
                with self.subTest(tongue=tongue.text, text=text):
                    if found:
                        self.assertEqual(closing, found[0])
                    else:
                        self.assertTrue(closing is None or len(closing) > 4 and tongue.is_closed(text + closing))

    def test_closings(self):
        for told, text, closing in (
                ("remark /* to */", "", ""), ("remark /* to */", "a/", ""), ("remark /* to */", "/*", "*/"),
                ("remark /* to */", "/* *", "/"), ("quote ' to ' line", "'", ""), ("quote ' to ' doubled", "'a'", ""),
                ("quote ' to ' doubled", "'a''", "'"), ("quote ' to ' escape ! line", "'!", "\n"),
                ("quote ' to ' escape !", "'!", "\n'"), ("remark ( to ) nested 4", "((((((", "))))"),
                ("remark # to line escape !", "#!", "\n"), ("remark # to ! escape !", "#", None),
                ("remark # to !? escape !", "##", None), ("remark # to ?! escape !", "#", "?!"),
                ("remark # to ! escape ! line", "#!", "\n"), ("remark # to !!!!", "#!!", "!!"),
                ("remark ' to ;\nquote '' to :", "'", ";"), ("remark ' to ;\nquote '' to :", "''", ":")):
            with self.subTest(told=told, text=text):
                self.assertEqual(Tongue(told).closing(text), closing)

    def test_escape_of_a_sign_that_is_no_mark_closes_with_the_least_one(self):
        self.assertEqual(Tongue("quote ' to '' escape !").closing("'!"), "\n''")
        self.assertEqual(Tongue("remark ! to line\nquote !! to '").closing("!!"), "'")
        # A newline would belong to the piece, as any other sign: so the closing mark is written at once.
        self.assertEqual(Tongue("quote ! to '' doubled").closing("!'"), "'")


class WeightTest(unittest.TestCase):
    def test_weights_of_mixtures(self):
        for opener, closer in product(("#", "##", "####"), ("line", "!", "!!!", "*/*/")):
            for nested, escape, doubled, line in product((0, 2, 3, 4), (0, 1), (0, 1), (0, 1)):
                if (nested or doubled or line) and closer == "line" or nested and doubled:
                    continue
                told = f"remark {opener} to {closer}" + f" nested {nested}" * bool(nested)
                told += " escape ?" * escape + " doubled" * doubled + " line" * line
                many = 0 if closer == "line" else len(closer) - 1
                many += len(opener) - 1 if nested else 0
                many = 2 * len(closer) - 1 if doubled else many
                weight = 1 + len(opener) - 1 + max(nested, 1) * (1 + many + escape)
                self.assertEqual(Tongue(told).weight, weight, told)

    def test_weights_of_tongues(self):
        self.assertEqual(Tongue("quote '' to '' doubled").weight, 6)
        self.assertEqual(Tongue(SIX).weight, 7)
        self.assertEqual([tongue_of_weight(weight).weight for weight in (1, 41, 50, 51, 61)], [1, 41, 50, 51, 61])
        heavy = "\n".join(f"remark {mark}((( to )))) nested 4 escape !" for mark in "#$&*+,")
        self.assertEqual(Tongue(heavy).weight, 1 + 6 * 35)


class WithoutTest(unittest.TestCase):
    def test_the_other_rules_in_their_order(self):
        tongue = Tongue(SIX)
        for index in range(6):
            rules = SIX.split("\n")
            del rules[index]
            self.assertEqual(tongue.without(index), Tongue("\n".join(rules)))
        self.assertEqual(Tongue("quote ' to '").without(0), Tongue(""))
        self.assertEqual(tongue.text, SIX)

    def test_no_such_rule(self):
        for index in (-1, 2, None, "0", True, 0.0):
            self.assertEqual(told_error(self, BadNumber, Tongue("quote ' to '\nquote ! to !").without, index),
                             ("rule", index))
        self.assertEqual(told_error(self, BadNumber, Tongue("").without, 0), ("rule", 0))

    def test_the_order_of_rules_plays_no_part(self):
        rules = ("remark # to line", "quote ## to #", "remark ### to !")
        texts = list(texts_up_to("#!\n", 6))
        told = {tuple(Tongue("\n".join(some)).kinds(text) for text in texts) for some in permutations(rules)}
        self.assertEqual(len(told), 1)


if __name__ == "__main__":
    unittest.main()
