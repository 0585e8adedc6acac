"""The examples of the document, row by row, with the answers that stand there."""

import re
import unittest
from pathlib import Path

TEXT = (Path(__file__).resolve().parent / "examples.txt").read_text()
MODULES = (
    "signs", "statetables", "textsets", "tongues", "readings", "rereading", "tonguesets", "words", "linetests",
    "guards", "guardtexts", "mending", "runs", "origins", "scripttexts", "weights", "feeds", "alikes", "carried",
    "clashes", "idles", "merges", "eitherorder", "desks", "trust", "records")


def examples(part):
    """Tuples (code, answer) of the rows of one heading; answer is None where none stands."""
    rows = part.strip().split("\n")[1:]
    found = []
    for at, row in enumerate(rows):
        if row.startswith(">>> "):
            following = rows[at + 1] if at + 1 < len(rows) else ">>>"
            found.append((row[4:], None if following.startswith(">>>") else following))
    return found


class ExamplesTest(unittest.TestCase):
    def test_examples(self):
        scope = {}
        parts = re.split(r"(?m)^(?=## )", TEXT)[1:]
        self.assertEqual([part.split("\n")[0][3:] for part in parts], list(MODULES))
        for part in parts:
            told = examples(part)
            self.assertGreaterEqual(len(told), 3)
            for code, answer in told:
                with self.subTest(code=code):
                    self.check(code, answer, scope)

    def check(self, code, answer, scope):
        try:
            tree = compile(code, "example", "eval")
        except SyntaxError:
            self.assertIsNone(answer)
            exec(code, scope)
            return
        if answer and answer.startswith("raises "):
            self.check_error(tree, answer[7:], scope)
            return
        self.assertEqual(repr(eval(tree, scope)), answer or "None")

    def check_error(self, tree, answer, scope):
        from textworkshop import errors
        name, fields = re.match(r"(\w+)\((.*)\)\Z", answer).groups()
        with self.assertRaises(getattr(errors, name)) as caught:
            eval(tree, scope)
        self.assertEqual(vars(caught.exception), eval(f"dict({fields})"))


if __name__ == "__main__":
    unittest.main()
