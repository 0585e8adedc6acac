"""Files at a desk: [75] to [80]."""

import unittest
from random import Random

from tests.asking import light_script, made
from tests.deskmodel import ModelDesk
from tests.support import any_guard, any_script, any_text, told_error
from textworkshop.desks import Desk
from textworkshop.errors import (
    AllLines, BadName, BadPlace, Broken, Conflict, NoFile, NoGuard, NoHidden, NoLine, NoScript, NothingToRedo,
    NothingToUndo, NoTongue, Refused, TakenName, TooHeavy, Touched, Unlike, WorkshopError)
from textworkshop.guards import and_guard, signs_guard
from textworkshop.guardtexts import read_guard
from textworkshop.scripts import Script
from textworkshop.steps import want_step
from textworkshop.tongues import Tongue

QUOTES = Tongue("quote ' to '")
ABOVE = and_guard([signs_guard(39), signs_guard(59)])
NO_NAMES = ("", "A", "a b", "abcdefghijklm", "a1", "\n", None, 5, True, ["a"], {}, {"a": 1}, ("a",), b"a", object(), 1.5)
BANG = made('ahead "!" on lines not number 1')


def told_of(desk):
    """All that can be seen of a desk, but for its scripts themselves."""
    return [(name, desk[name], desk.whole_text(name), desk.hidden_of(name), desk.file_guards(name))
            for name in desk], desk.script_names()


def desk_with(text, tongue=None, **scripts):
    desk = Desk()
    desk.open_file("f", text, tongue=tongue)
    for name, script in scripts.items():
        desk.keep_script(name, script)
    return desk


def outcome(call, *args):
    """What a call returns, or the error of the package that it raises, with its fields."""
    try:
        return "returns", call(*args)
    except WorkshopError as error:
        return type(error).__name__, tuple(vars(error).values())


def back_to_the_beginning(desk):
    """What is told of a desk at each moment, all changes taken back one by one, and done again."""
    moments = [told_of(desk)]
    while outcome(desk.undo)[0] == "returns":
        moments.append(told_of(desk))
    again = [told_of(desk)]
    while outcome(desk.redo)[0] == "returns":
        again.append(told_of(desk))
    return moments, again


class ModelTest(unittest.TestCase):
    """A desk does what plain words say of it, with any calls."""

    def any_call(self, source, model):
        name = source.choice(["a", "b"] * 6 + ["c", "Z"])
        label = source.choice(["p", "q", "r"] * 5 + ["x"])
        file = model.files.get(name)
        if file is None and source.random() < 0.8:
            return "open_file", name, self.any_lines(source), source.choice([None, QUOTES])
        size = len(file.shown()) if file else 3
        many = file.shown().count("\n") + 1 if file else 2
        start, stop = sorted(source.randint(0, size) for _ in range(2))
        if source.random() < 0.1:
            start, stop = source.randint(-1, size + 1), source.randint(-1, size + 1)
        first, last = source.randint(0 if source.random() < 0.1 else 1, many), source.randint(1, many + 1)
        calls = [
            ("open_file", name, self.any_lines(source), source.choice([None, QUOTES])),
            ("add_guard", name, any_guard(source, "ab\n", source.random() < 0.1, 1)),
            ("add_guard", name, read_guard(source.choice(['not has "bbb"', "at most 9 lines all", "at most 20 signs"]))),
            ("remove_guard", name, source.choice([0, 0, 1, -1, "0", True])),
            ("keep_script", label, self.any_script(source)), ("exchange_script", label, self.any_script(source)),
            ("do_script", name, label), ("do_script", name, label), ("do_script", name, label),
            ("do_part", name, start, stop, label), ("do_part", name, start, stop, label),
            ("write_text", name, start, any_text(source, "ab\n", 3)),
            ("write_text", name, start, any_text(source, "b\n", 2)), ("cut_text", name, start, stop),
            ("cut_text", name, start, min(stop, start + 2)), ("merge_scripts", name, label, source.choice("pqr")),
            ("undo",), ("undo",), ("redo",), ("redo",)]
        calls += [("hide_lines", name, first, min(last, first + 1)), ("hide_lines", name, first, last)] * 3
        calls += [("show_lines", name, source.choice([0, 1, 2, 3, 4, 5, 6]))] * 3
        if source.random() < 0.1:
            calls += [("close_file", name), ("drop_script", label)] * 4
        return source.choice(calls)

    def any_lines(self, source):
        return "\n".join(any_text(source, "aab", 2) for _ in range(source.randint(1, 8)))

    def any_script(self, source):
        return light_script(source, 2) if source.random() < 0.7 else any_script(source, "ab\n", 2)

    def do(self, desk, how, args):
        if how == "open_file":
            return outcome(lambda: desk.open_file(args[0], args[1], tongue=args[2]))
        return outcome(getattr(desk, how), *args)

    def test_any_calls(self):
        told = {}
        for seed in range(120):
            source = Random(seed)
            desk, model = Desk(), ModelDesk()
            for name in "ab":
                self.check(desk, model, "open_file", (name, self.any_lines(source), None))
            for label in "pqr":
                self.check(desk, model, "keep_script", (label, self.any_script(source)))
            for _ in range(120):
                how, *args = self.any_call(source, model)
                kind = self.check(desk, model, how, args)
                told[(how, kind)] = told.get((how, kind), 0) + 1
                self.check_guards(desk)
            moments, again = back_to_the_beginning(desk)
            self.assertEqual((moments[-1], again[0]), (([], []), ([], [])))
            self.assertEqual(again[:len(moments)], moments[::-1])
        for how in ("do_script", "do_part", "merge_scripts", "cut_text"):
            self.assertGreater(told.get((how, "returns"), 0), 10)
            self.assertGreater(told.get((how, "Touched"), 0), 0)
        for key in (("do_script", "Refused"), ("do_script", "Broken"), ("merge_scripts", "Conflict"),
                    ("hide_lines", "Touched"), ("hide_lines", "AllLines"), ("show_lines", "returns"),
                    ("exchange_script", "Unlike"), ("add_guard", "Broken"), ("redo", "returns")):
            self.assertGreater(told.get(key, 0), 3, key)

    def check(self, desk, model, how, args):
        told = self.do(desk, how, args)
        self.assertEqual(told, outcome(model.act, how, *args), (how, args))
        self.assertEqual(told_of(desk), model.told())
        return told[0]

    def check_guards(self, desk):
        for name in desk:
            for guard in desk.file_guards(name):
                self.assertTrue(guard.holds_of(desk.whole_text(name), desk.tongue_of(name)))


class NamesTest(unittest.TestCase):
    def test_names_of_any_kind(self):
        desk, script = desk_with("a"), Script([])
        for name in NO_NAMES:
            self.assertFalse(name in desk)
            self.assertEqual(told_error(self, BadName, desk.open_file, name, "x"), (name,))
            self.assertEqual(told_error(self, BadName, desk.keep_script, name, script), (name,))
            for call in (desk.__getitem__, desk.close_file, desk.file_guards, desk.whole_text, desk.hidden_of):
                self.assertEqual(told_error(self, NoFile, call, name), (name,))
            for call in (desk.script_of, desk.drop_script):
                self.assertEqual(told_error(self, NoScript, call, name), (name,))
            self.assertEqual(told_error(self, NoScript, desk.exchange_script, name, script), (name,))
            self.assertEqual(told_error(self, NoFile, desk.do_script, name, name), (name,))
            self.assertEqual(told_error(self, NoScript, desk.do_script, "f", name), (name,))
        self.assertEqual(told_of(desk), ([("f", "a", "a", [], ())], []))

    def test_longest_and_shortest_names(self):
        desk = Desk()
        for name in ("a", "z", "abcdefghijkl"):
            desk.open_file(name, name)
            desk.keep_script(name, Script([]))
        self.assertEqual([name for name in desk], ["a", "z", "abcdefghijkl"])
        self.assertEqual(desk.script_names(), ["a", "z", "abcdefghijkl"])
        self.assertTrue("z" in desk and "y" not in desk)

    def test_taken_names(self):
        desk = desk_with("x", g=BANG)
        # A file and a script may have the same name.
        desk.keep_script("f", BANG)
        desk.open_file("g", "y")
        self.assertEqual(told_error(self, TakenName, desk.open_file, "f", "x"), ("f",))
        self.assertEqual(told_error(self, TakenName, desk.keep_script, "g", BANG), ("g",))
        self.assertEqual([desk["f"], desk["g"], desk.script_names()], ["x", "y", ["g", "f"]])

    def test_the_order_of_files_and_scripts(self):
        desk = Desk()
        for name in ("c", "a", "b"):
            desk.open_file(name=name, text=name)
            desk.keep_script(name=name, script=made(f'replace "{name}" by "x"'))
        desk.close_file("a")
        desk.write_text("c", 0, "x")
        desk.open_file("a", "")
        self.assertEqual(list(desk), ["c", "b", "a"])
        desk.exchange_script(name="c", script=made('replace "c" by "x"', 'replace "q" by "q"'))
        desk.drop_script("a")
        desk.keep_script("a", BANG)
        self.assertEqual((desk.script_names(), len(desk.script_of("c").steps)), (["c", "b", "a"], 2))

    def test_returned_lists_are_new(self):
        desk = desk_with("a\nb", p=BANG)
        desk.hide_lines("f", 1, 1)
        desk.script_names().append("x")
        desk.hidden_of("f").clear()
        self.assertEqual((desk.script_names(), desk.hidden_of("f")), (["p"], [(0, 0, "a")]))
        self.assertEqual((type(desk.hidden_of("f")[0]), type(desk.file_guards("f"))), (tuple, tuple))


class GuardTest(unittest.TestCase):
    def test_guards_with_and_without_a_tongue(self):
        plain, asks = read_guard('not has "b"'), read_guard("closed")
        desk = desk_with("a")
        desk.add_guard("f", plain)
        self.assertEqual(told_error(self, NoTongue, desk.add_guard, "f", asks), (1,))
        self.assertEqual(told_error(self, NoTongue, desk.add_guard, "f", read_guard("not has \"a\" and closed")), (1,))
        desk.open_file("g", "'a'", tongue=QUOTES)
        desk.add_guard("g", asks)
        desk.add_guard(name="g", guard=plain)
        self.assertEqual(told_error(self, Broken, desk.write_text, "g", 0, "'"), ("g", 0))
        self.assertEqual(told_error(self, Broken, desk.write_text, "g", 0, "b"), ("g", 1))
        self.assertEqual(told_error(self, Broken, desk.write_text, "g", 0, "b'"), ("g", 0))
        desk.write_text("g", 0, "''")
        self.assertEqual((desk["g"], desk.file_guards(name="g")), ("'''a'", (asks, plain)))

    def test_adding_and_removing(self):
        desk = desk_with("ab")
        one, two, three = (read_guard(told) for told in ('has "a"', 'has "b"', 'at most 2 signs'))
        for guard in (one, two, three):
            desk.add_guard("f", guard)
        self.assertEqual(told_error(self, Broken, desk.add_guard, "f", read_guard('has "c"')), ("f", 3))
        for number in (-1, 3, True, False, None, "0", 0.0, [0], object()):
            self.assertEqual(told_error(self, NoGuard, desk.remove_guard, "f", number), ("f", number))
        desk.remove_guard(name="f", number=1)
        self.assertEqual(desk.file_guards("f"), (one, three))
        desk.cut_text("f", 1, 2)
        self.assertEqual(told_error(self, Broken, desk.cut_text, "f", 0, 1), ("f", 0))
        self.assertEqual(told_error(self, NoFile, desk.remove_guard, "g", 0), ("g",))
        self.assertEqual(told_error(self, NoFile, desk.add_guard, "g", one), ("g",))

    def test_guards_look_at_the_whole_text(self):
        desk = desk_with("a\nb\nc", bang=BANG)
        desk.add_guard("f", read_guard('not has "b\\nx"'))
        desk.add_guard("f", read_guard("at most 4 lines all"))
        desk.hide_lines("f", 2, 2)
        self.assertEqual(told_error(self, Broken, desk.write_text, "f", 2, "x"), ("f", 0))
        desk.write_text("f", 1, "\nq")
        self.assertEqual(desk.whole_text("f"), "a\nq\nb\nc")
        self.assertEqual(told_error(self, Broken, desk.write_text, "f", 0, "\n"), ("f", 1))
        self.assertEqual(told_error(self, Broken, desk.add_guard, "f", read_guard('not has "b"')), ("f", 2))
        desk.add_guard("f", read_guard("some line is \"b\""))


class HiddenTest(unittest.TestCase):
    def test_wrong_lines_in_their_order(self):
        desk = desk_with("a\nb\nc\nd")
        for first, last, error, fields in (
                (0, 9, NoLine, (0,)), (5, 0, NoLine, (5,)), (-1, 2, NoLine, (-1,)), (1, 5, NoLine, (5,)),
                (2, 1, NoLine, (1,)), (2, 0, NoLine, (0,)), (4, 5, NoLine, (5,)), (1, 4, AllLines, ("f",))):
            self.assertEqual(told_error(self, error, desk.hide_lines, "f", first, last), fields)
        self.assertEqual(told_error(self, NoFile, desk.hide_lines, "g", 0, 0), ("g",))
        self.assertEqual(told_error(self, NoFile, desk.show_lines, "g", 0), ("g",))
        self.assertEqual(told_error(self, NoHidden, desk.show_lines, "f", 0), (0,))
        one = desk_with("")
        self.assertEqual(told_error(self, AllLines, one.hide_lines, "f", 1, 1), ("f",))
        self.assertEqual(told_of(desk), ([("f", "a\nb\nc\nd", "a\nb\nc\nd", [], ())], []))

    def test_lots_at_one_place_at_the_end_and_ahead_of_the_first_line(self):
        desk = desk_with("a\nb\nc\nd\ne")
        self.assertEqual(desk.hide_lines(name="f", first=2, last=2), 0)
        self.assertEqual(desk.hide_lines("f", 2, 2), 1)
        self.assertEqual((desk["f"], desk.hidden_of("f")), ("a\nd\ne", [(0, 2, "b"), (1, 2, "c")]))
        self.assertEqual(desk.hide_lines("f", 1, 1), 2)
        self.assertEqual(desk.hidden_of("f"), [(2, 0, "a"), (0, 0, "b"), (1, 0, "c")])
        self.assertEqual(desk.hide_lines("f", 2, 2), 3)
        self.assertEqual((desk["f"], desk.hidden_of("f")[3]), ("d", (3, None, "e")))
        self.assertEqual(desk.whole_text("f"), "a\nb\nc\nd\ne")

    def test_across_the_line_that_is_hidden_next(self):
        desk = desk_with("a\nb\nc\nd\ne")
        desk.hide_lines("f", 2, 2)
        # The lot stands ahead of c: c may be the first of the lines, but no other one.
        self.assertEqual(told_error(self, Touched, desk.hide_lines, "f", 1, 2), (0,))
        desk.hide_lines("f", 3, 3)
        self.assertEqual(told_error(self, Touched, desk.hide_lines, "f", 1, 2), (0,))
        self.assertEqual(told_error(self, Touched, desk.hide_lines, "f", 2, 3), (1,))
        self.assertEqual(desk.hide_lines("f", 2, 2), 2)
        self.assertEqual(desk.hidden_of("f"), [(0, 2, "b"), (2, 2, "c"), (1, 2, "d")])
        self.assertEqual(desk.hide_lines("f", 2, 2), 3)
        self.assertEqual(desk.hidden_of("f"), [(0, None, "b"), (2, None, "c"), (1, None, "d"), (3, None, "e")])

    def test_all_lines_ahead_of_touched(self):
        desk = desk_with("a\nb\nc")
        desk.hide_lines("f", 2, 2)
        self.assertEqual(told_error(self, AllLines, desk.hide_lines, "f", 1, 2), ("f",))

    def test_lots_are_put_back_in_any_order(self):
        for order in ((0, 1, 2), (0, 2, 1), (1, 0, 2), (1, 2, 0), (2, 0, 1), (2, 1, 0)):
            for first in (1, 2, 3):
                desk = desk_with("a\n\nb\nc\n\nd")
                for _ in range(3):
                    desk.hide_lines("f", first, first)
                whole = desk.whole_text("f")
                for many, number in enumerate(order):
                    desk.show_lines(name="f", number=number)
                    self.assertEqual((desk.whole_text("f"), len(desk.hidden_of("f"))), (whole, 2 - many))
                    self.assertEqual(told_error(self, NoHidden, desk.show_lines, "f", number), (number,))
                self.assertEqual(desk["f"], "a\n\nb\nc\n\nd")

    def test_showing_one_of_several(self):
        desk = desk_with("a\nb\nc\nd")
        for _ in range(3):
            desk.hide_lines("f", 2, 2)
        desk.show_lines("f", 1)
        # The lots at the end that stood ahead of these lines stand ahead of the first one of them.
        self.assertEqual((desk["f"], desk.hidden_of("f")), ("a\nc", [(0, 2, "b"), (2, None, "d")]))
        desk = desk_with("a\nb\nc\nd")
        for _ in range(3):
            desk.hide_lines("f", 1, 1)
        desk.show_lines("f", 1)
        self.assertEqual((desk["f"], desk.hidden_of("f")), ("b\nd", [(0, 0, "a"), (2, 2, "c")]))

    def test_numbers_are_not_given_again(self):
        desk = desk_with("a\nb\nc")
        self.assertEqual(desk.hide_lines("f", 1, 1), 0)
        desk.show_lines("f", 0)
        self.assertEqual(desk.hide_lines("f", 1, 1), 1)
        desk.undo()
        self.assertEqual(desk.hide_lines("f", 2, 3), 1)
        desk.open_file("g", "x\ny")
        self.assertEqual(desk.hide_lines("g", 1, 1), 0)
        desk.close_file("g")
        desk.open_file("g", "x\ny")
        self.assertEqual(desk.hide_lines("g", 1, 1), 0)


class DeedTest(unittest.TestCase):
    def hidden_b(self, **scripts):
        """A desk with the file a, b, c, the second line of which is hidden."""
        desk = desk_with("aa\nb\ncc", **scripts)
        desk.hide_lines("f", 2, 2)
        return desk

    def test_what_is_put_just_there_is_put_behind_the_lot(self):
        desk = self.hidden_b()
        desk.write_text(name="f", place=3, text="x\n")
        self.assertEqual((desk.whole_text("f"), desk.hidden_of("f")), ("aa\nb\nx\ncc", [(0, 3, "b")]))
        desk.write_text("f", 2, "y\n")
        self.assertEqual((desk.whole_text("f"), desk.hidden_of("f")), ("aay\n\nb\nx\ncc", [(0, 5, "b")]))
        first = desk_with("a\nb")
        first.hide_lines("f", 1, 1)
        first.write_text("f", 0, "x")
        self.assertEqual(first.whole_text("f"), "a\nxb")

    def test_what_becomes_of_lots(self):
        for start, stop, whole in (
                (0, 2, "\nb\ncc"), (0, 3, "b\ncc"), (3, 5, "aa\nb\n"), (3, 3, "aa\nb\ncc"), (0, 1, "a\nb\ncc"), (2, 3, None),
                (2, 4, None), (1, 5, None), (0, 5, None)):
            desk = self.hidden_b()
            if whole is None:
                self.assertEqual(told_error(self, Touched, desk.cut_text, "f", start, stop), (0,))
            else:
                desk.cut_text(name="f", start=start, stop=stop)
                self.assertEqual(desk.whole_text("f"), whole)

    def test_the_least_number_of_those_that_are_touched(self):
        desk = desk_with("a\nb\nc\nd\ne")
        desk.hide_lines("f", 4, 4)
        desk.hide_lines("f", 2, 2)
        self.assertEqual([lot[0] for lot in desk.hidden_of("f")], [1, 0])
        self.assertEqual(told_error(self, Touched, desk.cut_text, "f", 0, 5), (0,))
        self.assertEqual(told_error(self, Touched, desk.cut_text, "f", 0, 3), (1,))
        self.assertEqual(told_error(self, Touched, desk.cut_text, "f", 1, 2), (1,))

    def test_lots_at_the_end_stay_at_the_end(self):
        desk = desk_with("a\nb\nc", drop=made("drop lines all"))
        desk.hide_lines("f", 2, 3)
        desk.cut_text("f", 0, 1)
        self.assertEqual((desk["f"], desk.whole_text("f"), desk.hidden_of("f")), ("", "\nb\nc", [(0, None, "b\nc")]))
        desk.write_text("f", 0, "x\ny")
        self.assertEqual(desk.whole_text("f"), "x\ny\nb\nc")
        desk.do_script("f", "drop")
        self.assertEqual(desk.whole_text("f"), "\nb\nc")

    def test_touched_ahead_of_broken(self):
        desk = self.hidden_b(cut=made("drop lines all"))
        desk.add_guard("f", read_guard('has "aa"'))
        self.assertEqual(told_error(self, Touched, desk.cut_text, "f", 1, 3), (0,))
        self.assertEqual(told_error(self, Touched, desk.do_script, "f", "cut"), (0,))
        self.assertEqual(told_error(self, Broken, desk.cut_text, "f", 0, 1), ("f", 0))

    def test_scripts_at_files(self):
        desk = self.hidden_b(x=made('replace "a" by "x"'), w=made('replace "q" by ""', 'want has "b"'), drop=made(
            "drop lines number 1"))
        desk.do_script(name="f", label="x")
        self.assertEqual(desk["f"], "xx\ncc")
        # The script is run on the shown text.
        self.assertEqual(told_error(self, Refused, desk.do_script, "f", "w"), (1,))
        self.assertEqual(told_error(self, NoFile, desk.do_script, "g", "none"), ("g",))
        self.assertEqual(told_error(self, NoScript, desk.do_script, "f", "none"), ("none",))
        # The newline that the second line owns goes, and the lot stands ahead of it.
        desk.do_script("f", "drop")
        self.assertEqual((desk["f"], desk.whole_text("f"), desk.hidden_of("f")), ("cc", "b\ncc", [(0, 0, "b")]))

    def test_parts_of_a_text_are_texts_of_their_own(self):
        desk = desk_with("ab\nab\nab", bang=BANG, last=made("keep lines last"), once=made('once "a" by "c"'))
        desk.do_part(name="f", start=1, stop=5, label="bang")
        self.assertEqual(desk["f"], "ab\n!ab\nab")
        desk.do_part("f", 1, 5, "last")
        self.assertEqual(desk["f"], "a!ab\nab")
        self.assertEqual(told_error(self, Refused, desk.do_part, "f", 0, 4, "once"), (0,))
        desk.do_part("f", 1, 4, "once")
        self.assertEqual(desk["f"], "a!cb\nab")
        desk.do_part("f", 2, 2, "bang")
        self.assertEqual(desk["f"], "a!cb\nab")
        for start, stop, wrong in ((-1, 9, -1), (8, 0, 8), (0, 8, 8), (3, 2, 2), (3, -1, -1), (8, 8, 8)):
            self.assertEqual(told_error(self, BadPlace, desk.do_part, "f", start, stop, "once"), (wrong,))
            self.assertEqual(told_error(self, BadPlace, desk.cut_text, "f", start, stop), (wrong,))
        self.assertEqual(told_error(self, NoFile, desk.do_part, "g", -1, 0, "none"), ("g",))
        self.assertEqual(told_error(self, NoScript, desk.do_part, "f", -1, 0, "none"), ("none",))

    def test_parts_with_lots(self):
        desk = self.hidden_b(x=made('replace "c" by "x"'), y=made('ahead "y" on lines number 1'), drop=made("drop lines all"))
        desk.do_part("f", 3, 5, "x")
        self.assertEqual((desk.whole_text("f"), desk.hidden_of("f")), ("aa\nb\nxx", [(0, 3, "b")]))
        desk.do_part("f", 3, 4, "y")
        self.assertEqual(desk.whole_text("f"), "aa\nb\nyxx")
        self.assertEqual(told_error(self, Touched, desk.do_part, "f", 2, 4, "drop"), (0,))
        desk.do_part("f", 0, 3, "y")
        self.assertEqual((desk.whole_text("f"), desk.hidden_of("f")), ("yaa\nb\nyxx", [(0, 4, "b")]))

    def test_writing(self):
        desk = desk_with("ab")
        desk.write_text("f", 2, "c\n")
        desk.write_text("f", 0, "")
        self.assertEqual(desk["f"], "abc\n")
        for place in (-1, 5):
            self.assertEqual(told_error(self, BadPlace, desk.write_text, "f", place, "x"), (place,))
        self.assertEqual(told_error(self, NoFile, desk.write_text, "g", -1, "x"), ("g",))
        self.assertEqual(told_error(self, NoFile, desk.cut_text, "g", -1, 0), ("g",))

    def test_merged_scripts_with_lots(self):
        x, y, z = made('replace "a" by "x"'), made('ahead "y" on lines number 2'), made('replace "aa" by "z"')
        want = made('replace "q" by ""', 'want has "b"')
        desk = self.hidden_b(x=x, y=y, z=z, want=want, drop=made("drop lines all"))
        self.assertEqual(told_error(self, Conflict, desk.merge_scripts, "f", "x", "z"), (0, 2))
        self.assertEqual(told_error(self, Touched, desk.merge_scripts, "f", "drop", "drop"), (0,))
        self.assertEqual(told_error(self, Refused, desk.merge_scripts, "f", "x", "want"), (1,))
        self.assertEqual(told_error(self, Refused, desk.merge_scripts, "f", "want", "x"), (1,))
        for args, error, fields in (
                (("g", "n", "m"), NoFile, ("g",)), (("f", "n", "m"), NoScript, ("n",)), (("f", "x", "m"), NoScript, ("m",))):
            self.assertEqual(told_error(self, error, desk.merge_scripts, *args), fields)
        desk.merge_scripts(name="f", one="y", other="x")
        self.assertEqual((desk.whole_text("f"), desk.hidden_of("f")), ("xx\nb\nycc", [(0, 3, "b")]))
        desk.add_guard("f", read_guard('at most 2 of "y"'))
        desk.merge_scripts("f", "y", "y")
        self.assertEqual(desk["f"], "xx\nyycc")
        self.assertEqual(told_error(self, Broken, desk.merge_scripts, "f", "y", "y"), ("f", 0))

    def test_exchanged_scripts(self):
        desk = desk_with("a", p=made('replace "a" by "b"'), heavy=Script([want_step(ABOVE)]))
        self.assertEqual(told_error(self, Unlike, desk.exchange_script, "p", made('first "a" by "b"')), ("aa",))
        self.assertEqual(told_error(self, TooHeavy, desk.exchange_script, "heavy", BANG), (2501,))
        self.assertEqual(told_error(self, TooHeavy, desk.exchange_script, "p", desk.script_of("heavy")), (2501,))
        self.assertEqual(told_error(self, NoScript, desk.exchange_script, "q", desk.script_of("heavy")), ("q",))
        longer = made('replace "a" by "c"', 'replace "c" by "b"')
        self.assertEqual(told_error(self, Unlike, desk.exchange_script, "p", longer), ("c",))
        other = made('replace "a" by "b"', 'replace "x" by "x"', tongue=QUOTES)
        desk.exchange_script("p", other)
        self.assertEqual(desk.script_of(name="p"), other)


if __name__ == "__main__":
    unittest.main()
