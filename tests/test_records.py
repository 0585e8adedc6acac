"""Records: [82]."""

import unittest
from random import Random

from tests.asking import light_script, made
from tests.support import any_text, told_error
from tests.test_desks import QUOTES, desk_with
from textworkshop.errors import (
    Broken, MixedTongues, NoFile, NoScript, NothingNoted, Refused, TooMany, Touched, WorkshopError)
from textworkshop.guardtexts import read_guard
from textworkshop.records import Recorder
from textworkshop.runs import run_script
from textworkshop.scripts import Script
from textworkshop.tongues import Tongue

TURN, BACK = made('replace "a" by "b"'), made('replace "b" by "c"', 'drop lines is ""')


class RecordTest(unittest.TestCase):
    def test_all_steps_in_order(self):
        desk = desk_with("a\n\nb", p=TURN, q=BACK)
        recorder = Recorder(desk=desk)
        self.assertIsNone(recorder.do_script(name="f", label="q"))
        recorder.do_script("f", "p")
        recorder.do_script("f", "q")
        self.assertEqual(recorder.script(), Script(BACK.steps + TURN.steps + BACK.steps))
        self.assertEqual((desk["f"], run_script(recorder.script(), "a\n\nb")), ("c\nc", "c\nc"))
        # Reading the record changes nothing.
        self.assertEqual(recorder.script(), recorder.script())

    def test_from_the_first_shown_text_to_the_last_one(self):
        source = Random(821)
        for _ in range(100):
            text = any_text(source, "aab\n", 8)
            desk = desk_with(text, **{name: light_script(source, 2) for name in "pqr"})
            recorder, done = Recorder(desk), 0
            for _ in range(4):
                try:
                    recorder.do_script("f", source.choice("pqr"))
                    done += 1
                except Refused:
                    pass
            if not done:
                self.assertEqual(told_error(self, NothingNoted, recorder.script), ())
                continue
            try:
                script = recorder.script()
            except TooMany:
                continue
            self.assertEqual(run_script(script, text), desk["f"])

    def test_empty_records(self):
        desk = desk_with("a", none=Script([]), p=TURN)
        recorder = Recorder(desk)
        self.assertEqual(told_error(self, NothingNoted, recorder.script), ())
        recorder.do_script("f", "none")
        self.assertEqual(told_error(self, NothingNoted, recorder.script), ())
        recorder.do_script("f", "p")
        self.assertEqual(recorder.script(), TURN)

    def test_records_that_are_too_long(self):
        desk = desk_with("x", q=made(*['replace "b" by "c"'] * 4), grow=made('replace "x" by "xyzuvw"'))
        recorder = Recorder(desk)
        recorder.do_script("f", "q")
        recorder.do_script("f", "q")
        self.assertEqual(told_error(self, TooMany, recorder.script), ("steps", 8, 6))
        recorder.clear()
        for _ in range(3):
            recorder.do_script("f", "grow")
        self.assertEqual(told_error(self, TooMany, recorder.script), ("growth", 216, 36))

    def test_tongues(self):
        told = 'replace "a" by "b"'
        desk = desk_with("a", plain=TURN, quotes=made(told, tongue=QUOTES), same=made(told, tongue=Tongue("quote ' to '")),
                         other=made(told, tongue=Tongue("remark # to line")), empty=Script([], QUOTES), none=Script([]),
                         six=made(*[told] * 6))
        for labels, tongue in ((["plain", "none"], None), (["quotes", "same"], QUOTES), (["empty", "quotes"], QUOTES)):
            recorder = Recorder(desk)
            for label in labels:
                recorder.do_script("f", label)
            self.assertEqual(recorder.script().tongue, tongue)
        for labels in (["plain", "quotes"], ["quotes", "plain"], ["plain", "empty"], ["quotes", "none"], ["quotes", "other"],
                       ["six", "six", "empty"]):
            recorder = Recorder(desk)
            for label in labels:
                recorder.do_script("f", label)
            self.assertEqual(told_error(self, MixedTongues, recorder.script), ())
        # Without steps there is nothing noted, whatever the tongues are.
        recorder = Recorder(desk)
        recorder.do_script("f", "empty")
        recorder.do_script("f", "none")
        self.assertEqual(told_error(self, NothingNoted, recorder.script), ())

    def test_scripts_that_were_dropped_or_exchanged_since(self):
        desk = desk_with("a", p=TURN)
        recorder = Recorder(desk)
        recorder.do_script("f", "p")
        desk.exchange_script("p", made('replace "a" by "b"', 'replace "x" by "x"'))
        recorder.do_script("f", "p")
        desk.drop_script("p")
        desk.keep_script("p", BACK)
        self.assertEqual(len(recorder.script().steps), 3)
        self.assertEqual(recorder.script().steps[:2], TURN.steps * 2)

    def test_deeds_that_were_refused(self):
        desk = desk_with("a\nb\nc", p=TURN, want=made('want has "x"'), cut=made("drop lines all"), grow=made(
            'behind "bb" on lines all'))
        desk.hide_lines("f", 2, 2)
        desk.add_guard("f", read_guard('not has "bbb"'))
        desk.write_text("f", 0, "b")
        recorder = Recorder(desk)
        for args, error, fields in (
                (("g", "none"), NoFile, ("g",)), (("f", "none"), NoScript, ("none",)), (("f", "want"), Refused, (0,)),
                (("f", "cut"), Touched, (0,))):
            self.assertEqual(told_error(self, error, recorder.do_script, *args), fields)
        recorder.do_script("f", "p")
        self.assertEqual(told_error(self, Broken, recorder.do_script, "f", "grow"), ("f", 0))
        self.assertEqual(recorder.script(), TURN)

    def test_deeds_that_were_undone_stay_noted(self):
        desk = desk_with("a", p=TURN, q=BACK)
        recorder = Recorder(desk)
        recorder.do_script("f", "p")
        desk.undo()

        def action(given):
            recorder.do_script("f", "q")
            given.close_file("none")

        self.assertEqual(told_error(self, NoFile, desk.attempt, action), ("none",))
        self.assertEqual(desk["f"], "a")
        self.assertEqual(recorder.script(), Script(TURN.steps + BACK.steps))

    def test_clear(self):
        desk = desk_with("a", p=TURN, quotes=made('replace "a" by "b" in code', tongue=QUOTES))
        recorder, other = Recorder(desk), Recorder(desk)
        for one in (recorder, other):
            one.do_script("f", "p")
        self.assertIsNone(recorder.clear())
        self.assertEqual(told_error(self, NothingNoted, recorder.script), ())
        self.assertEqual(other.script(), TURN)
        recorder.do_script("f", "quotes")
        self.assertEqual(recorder.script().tongue, QUOTES)
        recorder.clear()
        recorder.clear()

    def test_files_and_changes_of_other_kinds(self):
        desk = desk_with("a", p=TURN)
        desk.open_file("g", "aa")
        recorder = Recorder(desk)
        recorder.do_script("g", "p")
        desk.do_script("f", "p")
        desk.write_text("f", 0, "a")
        recorder.do_script("f", "p")
        self.assertEqual((len(recorder.script().steps), desk["g"], desk["f"]), (2, "bb", "bb"))
        # It is one change of the desk.
        desk.undo()
        self.assertEqual(desk["f"], "ab")
        with self.assertRaises(WorkshopError):
            recorder.do_script("g", None)


if __name__ == "__main__":
    unittest.main()
