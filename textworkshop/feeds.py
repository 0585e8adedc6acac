"""Texts that come sign by sign, and what is certain of their results."""

from textworkshop.certain import CertainWays, behind_told
from textworkshop.questions import check_question, named_in, parts_of, question_signs, script_ways
from textworkshop.runs import run_script


class Feed:
    """A text of which a beginning is there, and what is certain of what a script makes of it.

    The ways that are alive tell what they have more than is told.
    """

    def __init__(self, script):
        parts = parts_of(script)
        check_question(parts, [])
        self._script = script
        self._ways = CertainWays(script_ways(parts, question_signs(parts, [])), named_in(parts, []))
        self._live = self._ways.first_ways()
        self.text = ""
        self.told = ""
        self._tell()

    def _tell(self):
        """Tells what is certain now."""
        more = self._ways.certain(self._live)
        self._live = behind_told(self._live, len(more))
        self.told += more

    def is_lost(self):
        """Whether the script refuses each text that begins so."""
        return not self._live

    def push(self, text):
        """Puts a text behind the beginning; returns what is certain now, and was not."""
        many = len(self.told)
        for sign in text:
            self._live = self._ways.moved(self._live, sign)
            self._tell()
        self.text += text
        return self.told[many:]

    def remainder(self):
        """What the result of the beginning has behind what is told; raises Refused."""
        return run_script(self._script, self.text)[len(self.told):]

    def parted(self):
        """Two texts that show that no more is certain, None if there are none."""
        return self._ways.parting(self._live)
