"""Runs of scripts."""

from textworkshop.deeds import deed_of, done_text, taken_lines, taken_signs
from textworkshop.errors import BadStep, BadWord, NoTongue, Refused
from textworkshop.signs import is_text
from textworkshop.steps import Step
from textworkshop.tongues import Tongue


def run_script(script, text):
    """The text that a script leaves; raises BadWord, Refused."""
    texts, number = stages_of(script, text)
    if number is not None:
        raise Refused(number)
    return texts[-1]


def refused_step(script, text):
    """The number of the step that refuses a text, None if none does; raises BadWord."""
    return stages_of(script, text)[1]


def run_stages(script, text):
    """The texts ahead of the steps that are done or refuse, and the one that is left; raises BadWord."""
    return tuple(stages_of(script, text)[0])


def stages_of(script, text):
    """The list of the texts of a run, and the number of the step that refuses, or None."""
    if not is_text(text):
        raise BadWord("text")
    texts = [text]
    for number, step in enumerate(script.steps):
        deed = deed_of(step, texts[-1], script.tongue)
        if deed is None:
            return texts, number
        texts.append(done_text(texts[-1], deed))
    return texts, None


def taken_places(step, text, tongue=None):
    """Where a step works on a text: places of words, or numbers of lines."""
    if not isinstance(step, Step):
        raise BadStep(0)
    if not is_text(text):
        raise BadWord("text")
    if tongue is not None and not isinstance(tongue, Tongue):
        raise BadWord("tongue")
    if tongue is None and step.asks_kinds:
        raise NoTongue(0)
    if step.word in ("replace", "first", "once"):
        return tuple(taken_signs(step, text, tongue))
    return () if step.word == "want" else tuple(taken_lines(step, text))
