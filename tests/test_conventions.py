"""Conventions of all modules: what is copied, what is returned, what never changes: [2]."""

import unittest

from tests.asking import made
from tests.support import told_error
from textworkshop.alikes import unlike_text
from textworkshop.carried import needed_set
from textworkshop.clashes import clash_texts
from textworkshop.desks import Desk
from textworkshop.errors import AllLines, BadNumber, BadPlace, BadStep, Broken, Refused, TooHeavy
from textworkshop.feeds import Feed
from textworkshop.guards import and_guard, signs_guard
from textworkshop.guardtexts import read_guard
from textworkshop.idles import idle_steps, least_steps, movable_places, part_script, shown_text
from textworkshop.linetests import plain_test
from textworkshop.merges import conflict_pieces, merged_hunks, merged_pieces
from textworkshop.readings import ReadingMachine
from textworkshop.records import Recorder
from textworkshop.rereading import Rereading
from textworkshop.scripts import Script
from textworkshop.signs import line_starts, lines_of, text_of
from textworkshop.statetables import StateTable
from textworkshop.textsets import TextSet, all_texts
from textworkshop.tongues import Tongue
from textworkshop.tonguesets import idle_rules
from textworkshop.words import line_words


class ConventionsTest(unittest.TestCase):
    def test_returned_tuples_are_plain(self):
        table = StateTable("a", [[1, 0], [1, 1]], [1])
        machine = ReadingMachine(Tongue("quote ' to '"))
        for value in (lines_of("a"), line_starts("a"), table.rows, table.rows[0], table.good, Tongue("").rules,
                      machine.beginning, machine.moved(machine.beginning, "a"), machine.ended(machine.beginning),
                      Rereading(Tongue(""), "").write(0, "a"), line_words("a"), line_words("a")[0],
                      plain_test("all").truths(["a"]), next(Tongue("quote ' to '").pieces("'"))):
            self.assertIs(type(value), tuple)

    def test_returned_lists_are_new(self):
        tongue = Tongue("remark / to line\nremark // to line")
        told = idle_rules(tongue)
        told.append(5)
        self.assertEqual(idle_rules(tongue), [1])
        self.assertIs(type(told), list)

    def test_arguments_are_not_changed(self):
        lines, rows, good = ["a", "b"], [[1, 0], [1, 1]], [1]
        text_of(lines)
        plain_test("last").truths(lines)
        StateTable("a", rows, good)
        self.assertEqual((lines, rows, good), (["a", "b"], [[1, 0], [1, 1]], [1]))

    def test_tuples_in_the_place_of_lists(self):
        self.assertEqual(StateTable("a", ((1, 0), [1, 1]), (1,)), StateTable("a", [[1, 0], [1, 1]], [1]))
        self.assertEqual(text_of(("a", "b")), "a\nb")
        self.assertEqual(plain_test("last").truths(("a", "b")), (False, True))

    def test_calls_that_raise_change_nothing(self):
        reading, tongue = Rereading(Tongue("quote ' to '"), "a'b"), Tongue("quote ' to '")
        self.assertEqual(told_error(self, BadPlace, reading.cut, 2, 0), (0,))
        self.assertEqual(told_error(self, BadPlace, reading.write, 4, "'"), (4,))
        self.assertEqual(told_error(self, BadNumber, tongue.without, 1), ("rule", 1))
        self.assertEqual((reading.text, reading.kinds(), tongue.rules), ("a'b", "cqq", ("quote ' to '",)))

    def test_returned_tuples_of_questions_are_plain(self):
        script, other = made('replace "a" by "b"'), made("drop lines all")
        for value in (clash_texts(other), idle_steps(script), least_steps(script), movable_places(script, 0),
                      conflict_pieces("a", script, other), conflict_pieces("a", script, other)[0],
                      merged_hunks("a", script, script), merged_pieces("a", script, script),
                      Feed(script).parted(), script.steps):
            self.assertIs(type(value), tuple)

    def test_lists_that_are_passed_are_copied(self):
        steps, numbers = list(made('replace "a" by "b"', "drop lines all").steps), [0, 1]
        script = Script(steps)
        part = part_script(script, numbers)
        steps.pop()
        numbers.clear()
        self.assertEqual((len(script.steps), len(part.steps)), (2, 2))
        guards = [read_guard('has "a"'), read_guard('has "b"')]
        joined = and_guard(guards)
        guards.clear()
        self.assertEqual(len(joined.leaves), 2)

    def test_questions_change_no_arguments(self):
        script, other, texts = made('replace "a" by "b"'), made('once "a" by "c"'), TextSet(StateTable("a", [[1, 0], [0, 1]], [0]))
        before = (script.steps, other.steps, texts.table.rows, texts.table.good)
        unlike_text(script, other, under=texts)
        needed_set(script, texts)
        merged_pieces("a", script, script)
        clash_texts(other, under=texts)
        self.assertEqual((script.steps, other.steps, texts.table.rows, texts.table.good), before)

    def test_questions_and_desks_that_raise_change_nothing(self):
        desk = Desk()
        desk.open_file("f", "a")
        desk.add_guard("f", read_guard('has "a"'))
        desk.keep_script("p", made('replace "a" by "b"'))
        recorder, feed = Recorder(desk), Feed(made('want has "a"'))
        self.assertEqual(told_error(self, Broken, recorder.do_script, "f", "p"), ("f", 0))
        self.assertEqual(told_error(self, AllLines, desk.hide_lines, "f", 1, 1), ("f",))
        self.assertEqual(told_error(self, Refused, feed.remainder), (0,))
        self.assertEqual((desk["f"], desk.hidden_of("f"), feed.text, feed.told), ("a", [], "", ""))
        desk.undo()
        self.assertEqual(desk.script_names(), [])

    def test_the_error_that_is_listed_first(self):
        above = and_guard([signs_guard(39), signs_guard(59)])
        script = made('replace "a" by "b"', f"want {above.written}")
        self.assertEqual(told_error(self, BadStep, shown_text, script, 0, None), (0,))
        self.assertEqual(told_error(self, BadNumber, movable_places, script, 2), ("number", 2))
        self.assertEqual(told_error(self, TooHeavy, movable_places, script, 0), (2501,))

    def test_numbers_with_many_digits(self):
        script, great = made('replace "a" by "b"'), 10 ** 3999
        for number in (great, -great):
            self.assertEqual(told_error(self, BadNumber, part_script, script, (number,)), ("number", number))
            self.assertEqual(told_error(self, BadNumber, movable_places, script, number), ("number", number))
        self.assertIsNone(unlike_text(script, script, under=all_texts()))


if __name__ == "__main__":
    unittest.main()
