"""Conventions of all modules: what is copied, what is returned, what never changes: [2]."""

import unittest

from tests.support import told_error
from textworkshop.errors import BadNumber, BadPlace
from textworkshop.linetests import plain_test
from textworkshop.readings import ReadingMachine
from textworkshop.rereading import Rereading
from textworkshop.signs import line_starts, lines_of, text_of
from textworkshop.statetables import StateTable
from textworkshop.tongues import Tongue
from textworkshop.tonguesets import idle_rules
from textworkshop.words import line_words


class ConventionsTest(unittest.TestCase):
    def test_returned_tuples_are_plain(self):
        table = StateTable("a", [[1, 0], [1, 1]], [1])
        machine = ReadingMachine(Tongue("quote ' to '"))
        for value in (lines_of("a"), line_starts("a"), table.rows, table.rows[0], table.good, Tongue("").rules,
                      machine.beginning, machine.moved(machine.beginning, "a"), machine.ended(machine.beginning),
                      Rereading(Tongue(""), "").write(0, "a"), line_words("a"), line_words("a")[0],
                      plain_test("all").truths(["a"]), next(Tongue("quote ' to '").pieces("'"))):
            self.assertIs(type(value), tuple)

    def test_returned_lists_are_new(self):
        tongue = Tongue("remark / to line\nremark // to line")
        told = idle_rules(tongue)
        told.append(5)
        self.assertEqual(idle_rules(tongue), [1])
        self.assertIs(type(told), list)

    def test_arguments_are_not_changed(self):
        lines, rows, good = ["a", "b"], [[1, 0], [1, 1]], [1]
        text_of(lines)
        plain_test("last").truths(lines)
        StateTable("a", rows, good)
        self.assertEqual((lines, rows, good), (["a", "b"], [[1, 0], [1, 1]], [1]))

    def test_tuples_in_the_place_of_lists(self):
        self.assertEqual(StateTable("a", ((1, 0), [1, 1]), (1,)), StateTable("a", [[1, 0], [1, 1]], [1]))
        self.assertEqual(text_of(("a", "b")), "a\nb")
        self.assertEqual(plain_test("last").truths(("a", "b")), (False, True))

    def test_calls_that_raise_change_nothing(self):
        reading, tongue = Rereading(Tongue("quote ' to '"), "a'b"), Tongue("quote ' to '")
        self.assertEqual(told_error(self, BadPlace, reading.cut, 2, 0), (0,))
        self.assertEqual(told_error(self, BadPlace, reading.write, 4, "'"), (4,))
        self.assertEqual(told_error(self, BadNumber, tongue.without, 1), ("rule", 1))
        self.assertEqual((reading.text, reading.kinds(), tongue.rules), ("a'b", "cqq", ("quote ' to '",)))


if __name__ == "__main__":
    unittest.main()
