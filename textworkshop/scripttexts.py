"""Texts of scripts."""

from textworkshop.guardtexts import guard_form, kind_word, made_guard
from textworkshop.linetesttexts import linetest_form, linetest_text, made_linetest
from textworkshop.scripts import Script
from textworkshop.steps import (
    drop_step, first_step, keep_step, once_step, put_step, replace_step, strip_step, want_step)
from textworkshop.wordreader import WordReader
from textworkshop.words import quoted_text

EXCHANGES = ("replace", "first", "once")
LINE_WORDS = ("ahead", "behind", "above", "below", "strip")


def read_script(text, *, tongue=None):
    """The script that a text tells; raises BadText, then the errors of making it."""
    forms = [line_form(line, number) for number, line in enumerate(text.split("\n"), start=1) if line.strip(" ")]
    return Script([made_step(word, fields) for word, fields in forms], tongue)


def line_form(line, number):
    """The form of the step in a line: its first word, and what else it is made from."""
    words = WordReader(line, number)
    word = words.chosen((*EXCHANGES, "drop", "keep", *LINE_WORDS, "want"))
    fields = step_fields(words, word)
    words.finish()
    return word, fields


def step_fields(words, word):
    """What a step is made from, as it stands behind its first word; line tests and guards by their forms."""
    if word in EXCHANGES:
        old = words.quoted()
        words.chosen(("by",))
        new = words.quoted()
        kind, form = where_fields(words) if word == "replace" else (None, None)
        return old, new, kind, form
    if word in LINE_WORDS:
        told = words.quoted()
        words.chosen(("on",))
        return told, lines_field(words)
    return (guard_form(words, 0) if word == "want" else lines_field(words),)


def where_fields(words):
    """The kind and the form of the test of a replace, None for what it has not."""
    if words.skipped("in"):
        return kind_word(words), None
    if words.skipped("on"):
        return None, lines_field(words)
    return None, None


def lines_field(words):
    """The form of the test behind the word lines."""
    words.chosen(("lines",))
    return linetest_form(words)


def made_step(word, fields):
    """The step of a form; its test or its guard is made ahead of it."""
    match word:
        case "want":
            return want_step(made_guard(fields[0]))
        case "drop":
            return drop_step(made_linetest(fields[0]))
        case "keep":
            return keep_step(made_linetest(fields[0]))
        case "first":
            return first_step(fields[0], fields[1])
        case "once":
            return once_step(fields[0], fields[1])
        case "replace":
            old, new, kind, form = fields
            return replace_step(old, new, kind, None if form is None else made_linetest(form))
        case "strip":
            return strip_step(fields[0], made_linetest(fields[1]))
        case _:
            return put_step(word, fields[0], made_linetest(fields[1]))


def step_text(step):
    """The one line of a step."""
    if step.word == "want":
        return f"want {step.guard.written}"
    if step.word in ("drop", "keep"):
        return f"{step.word} lines {linetest_text(step.test)}"
    if step.word in LINE_WORDS:
        told = step.old if step.word == "strip" else step.new
        return f"{step.word} {quoted_text(told)} on lines {linetest_text(step.test)}"
    line = f"{step.word} {quoted_text(step.old)} by {quoted_text(step.new)}"
    if step.kind is not None:
        return f"{line} in {step.kind}"
    return line if step.test is None else f"{line} on lines {linetest_text(step.test)}"


def script_text(script):
    """The lines of the steps of a script, each with a newline behind it."""
    return "".join([step_text(step) + "\n" for step in script.steps])
