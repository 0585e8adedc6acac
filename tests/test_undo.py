"""What is taken back at a desk, and what is tried: [80]."""

import unittest

from tests.asking import made
from tests.support import told_error
from tests.test_desks import BANG, QUOTES, back_to_the_beginning, desk_with, told_of
from textworkshop.desks import Desk
from textworkshop.errors import Broken, NoFile, NoScript, NothingToRedo, NothingToUndo, TakenName
from textworkshop.guardtexts import read_guard

TURN = made('replace "a" by "b"')
TURN_LONGER = made('replace "a" by "b"', 'replace "x" by "x"')


class Stop(Exception):
    """An error of the caller's own."""


def all_changes(desk):
    """Changes of all kinds, in an order in which they can be done: functions."""
    return [
        lambda: desk.open_file("f", "a\nb\nc", tongue=QUOTES), lambda: desk.open_file("g", ""),
        lambda: desk.add_guard("f", read_guard("closed")), lambda: desk.add_guard("f", read_guard('has "b"')),
        lambda: desk.keep_script("p", made('replace "a" by "a"')), lambda: desk.keep_script("q", BANG),
        lambda: desk.remove_guard("f", 0), lambda: desk.do_script("f", "p"), lambda: desk.do_script("f", "q"),
        lambda: desk.do_part("f", 1, 3, "q"), lambda: desk.write_text("f", 0, ""), lambda: desk.write_text("f", 1, "xyz"),
        lambda: desk.cut_text("f", 1, 1), lambda: desk.cut_text("f", 1, 2), lambda: desk.merge_scripts("f", "p", "q"),
        lambda: desk.hide_lines("f", 1, 1), lambda: desk.hide_lines("f", 2, 2), lambda: desk.show_lines("f", 1),
        lambda: desk.exchange_script("p", made('replace "b" by "b"')), lambda: desk.exchange_script("q", BANG),
        lambda: desk.drop_script("p"), lambda: desk.close_file("g"), lambda: desk.close_file("f")]


class UndoTest(unittest.TestCase):
    def test_each_call_is_one_change(self):
        desk = Desk()
        moments = [told_of(desk)]
        for change in all_changes(desk):
            change()
            moments.append(told_of(desk))
            self.assertEqual(told_error(self, NothingToRedo, desk.redo), ())
            desk.undo()
            self.assertEqual(told_of(desk), moments[-2])
            desk.redo()
            self.assertEqual(told_of(desk), moments[-1])
        back, again = back_to_the_beginning(desk)
        self.assertEqual((back, again), (moments[::-1], moments))

    def test_changes_that_look_like_nothing(self):
        desk = desk_with("ab", p=made('replace "x" by "y"'))
        for change in (lambda: desk.write_text("f", 1, ""), lambda: desk.cut_text("f", 2, 2),
                       lambda: desk.do_script("f", "p"), lambda: desk.do_part("f", 0, 0, "p"),
                       lambda: desk.merge_scripts("f", "p", "p"), lambda: desk.exchange_script("p", desk.script_of("p"))):
            change()
            desk.undo()
            self.assertEqual((desk["f"], desk.script_names()), ("ab", ["p"]))
            desk.redo()
        for _ in range(6):
            desk.undo()
        self.assertEqual((desk["f"], desk.script_names()), ("ab", ["p"]))
        desk.undo()
        self.assertEqual(desk.script_names(), [])

    def test_calls_that_only_tell_are_no_changes(self):
        desk = desk_with("a", p=TURN)
        desk.write_text("f", 0, "x")
        desk.undo()
        desk["f"], "f" in desk, list(desk), desk.file_guards("f"), desk.whole_text("f"), desk.hidden_of("f")
        desk.script_of("p"), desk.script_names(), desk.tongue_of("f")
        desk.redo()
        self.assertEqual(desk["f"], "xa")

    def test_calls_that_raise_are_no_changes(self):
        desk = desk_with("a", p=TURN)
        desk.add_guard("f", read_guard('has "a"'))
        desk.write_text("f", 0, "x")
        desk.undo()
        self.assertEqual(told_error(self, Broken, desk.do_script, "f", "p"), ("f", 0))
        self.assertEqual(told_error(self, NoFile, desk.close_file, "g"), ("g",))
        self.assertEqual(told_error(self, TakenName, desk.keep_script, "p", TURN), ("p",))
        desk.redo()
        self.assertEqual(desk["f"], "xa")

    def test_nothing_to_undo_and_to_redo(self):
        desk = Desk()
        self.assertEqual((told_error(self, NothingToUndo, desk.undo), told_error(self, NothingToRedo, desk.redo)), ((), ()))
        desk.open_file("f", "a")
        desk.undo()
        self.assertEqual(told_error(self, NothingToUndo, desk.undo), ())
        self.assertFalse("f" in desk)
        desk.redo()
        self.assertEqual((told_error(self, NothingToRedo, desk.redo), desk["f"]), ((), "a"))

    def test_redo_is_gone_behind_another_change(self):
        desk = desk_with("a")
        for text in "bcd":
            desk.write_text("f", 0, text)
        desk.undo()
        desk.undo()
        desk.redo()
        self.assertEqual(desk["f"], "cba")
        desk.write_text("f", 0, "")
        self.assertEqual(told_error(self, NothingToRedo, desk.redo), ())
        desk.undo()
        desk.undo()
        self.assertEqual(desk["f"], "ba")
        desk.redo()
        desk.redo()
        self.assertEqual((told_error(self, NothingToRedo, desk.redo), desk["f"]), ((), "cba"))

    def test_undo_and_redo_are_no_changes(self):
        desk = desk_with("a")
        desk.write_text("f", 0, "b")
        for _ in range(3):
            desk.undo()
            desk.redo()
        desk.undo()
        self.assertEqual(desk["f"], "a")
        desk.undo()
        self.assertEqual(list(desk), [])

    def test_a_desk_that_is_changed_while_it_is_iterated(self):
        desk = desk_with("a")
        desk.open_file("g", "b")
        for name in desk:
            desk.close_file(name)
        self.assertEqual(list(desk), [])

    def test_many_changes(self):
        desk = desk_with("")
        for _ in range(3000):
            desk.write_text("f", 0, "")
        for _ in range(3000):
            desk.undo()
        for _ in range(3000):
            desk.redo()
        self.assertEqual(desk["f"], "")
        del desk


class AttemptTest(unittest.TestCase):
    def test_an_attempt_that_ends_well(self):
        desk = desk_with("a", p=TURN)
        told = []

        def action(given):
            told.append(given)
            given.do_script("f", "p")
            given.write_text("f", 0, "x")
            return [given["f"]]

        self.assertEqual(desk.attempt(action=action), ["xb"])
        self.assertIs(told[0], desk)
        # The changes are taken back one by one.
        desk.undo()
        self.assertEqual(desk["f"], "b")
        desk.undo()
        self.assertEqual(desk["f"], "a")
        desk.redo()
        self.assertEqual(desk["f"], "b")
        self.assertIsNone(desk.attempt(lambda given: None))
        desk.redo()
        self.assertEqual(desk["f"], "xb")

    def test_attempts_that_end_by_an_exception(self):
        for error in (Stop("x"), NoFile("x"), Broken("f", 1), KeyError("k"), KeyboardInterrupt(), GeneratorExit(), SystemExit(3)):
            desk = desk_with("a\nb", p=TURN)
            desk.write_text("f", 0, "1")
            desk.write_text("f", 0, "2")
            desk.undo()
            before = told_of(desk)

            def action(given):
                given.undo()
                given.hide_lines("f", 1, 1)
                given.open_file("g", "x")
                given.exchange_script("p", TURN_LONGER)
                given.close_file("f")
                given.drop_script("p")
                raise error

            with self.assertRaises(type(error)) as caught:
                desk.attempt(action)
            self.assertIs(caught.exception, error)
            self.assertEqual((told_of(desk), desk.script_of("p")), (before, TURN))
            # What can be done again and taken back is as it was, too.
            desk.redo()
            self.assertEqual(desk["f"], "21a\nb")
            self.assertEqual(told_error(self, NothingToRedo, desk.redo), ())
            desk.undo()
            desk.undo()
            self.assertEqual(desk["f"], "a\nb")
            self.assertEqual(desk.hide_lines("f", 1, 1), 0)

    def test_errors_of_the_desk_leave_an_attempt(self):
        desk = desk_with("a", p=TURN)

        def action(given):
            given.write_text("f", 0, "x")
            given.do_script("f", "none")

        self.assertEqual(told_error(self, NoScript, desk.attempt, action), ("none",))
        self.assertEqual(desk["f"], "a")

    def test_errors_that_are_caught_within(self):
        desk = desk_with("a", p=TURN)

        def action(given):
            given.write_text("f", 0, "x")
            try:
                given.do_script("f", "none")
            except NoScript:
                given.write_text("f", 0, "y")
            return given["f"]

        self.assertEqual((desk.attempt(action), desk["f"]), ("yxa", "yxa"))

    def test_attempts_within_one_another(self):
        desk = desk_with("a", p=TURN)

        def inner(given):
            given.write_text("f", 0, "i")
            return given["f"]

        def failing(given):
            given.attempt(inner)
            raise Stop

        def outer(given):
            given.write_text("f", 0, "o")
            told = [given.attempt(inner)]
            with self.assertRaises(Stop):
                given.attempt(failing)
            return [*told, given["f"]]

        def all_failing(given):
            given.attempt(outer)
            given.attempt(failing)

        self.assertEqual(desk.attempt(outer), ["ioa", "ioa"])
        with self.assertRaises(Stop):
            desk.attempt(all_failing)
        self.assertEqual(desk["f"], "ioa")
        desk.undo()
        self.assertEqual(desk["f"], "oa")
        desk.undo()
        self.assertEqual(desk["f"], "a")
        desk.redo()
        desk.redo()
        self.assertEqual((desk["f"], told_error(self, NothingToRedo, desk.redo)), ("ioa", ()))

    def test_what_is_taken_back_within(self):
        desk = desk_with("a")
        desk.write_text("f", 0, "b")

        def action(given):
            given.undo()
            given.write_text("f", 0, "c")

        desk.attempt(action)
        self.assertEqual((desk["f"], told_error(self, NothingToRedo, desk.redo)), ("ca", ()))
        desk.undo()
        self.assertEqual(desk["f"], "a")


if __name__ == "__main__":
    unittest.main()
