"""What is common to all questions about scripts: their steps, their signs, their weights, their ways."""

from textworkshop.deeds import put_word
from textworkshop.errors import BadNumber
from textworkshop.guardsets import guard_set
from textworkshop.linemachines import LineMachine
from textworkshop.lineways import (
    AheadMachine, BehindMachine, LineReplaceMachine, LinesMachine, StripMachine)
from textworkshop.signs import all_signs, is_whole
from textworkshop.tongues import mark_signs
from textworkshop.tonguesets import check_weight
from textworkshop.ways import TableMachine, chained, met_ways
from textworkshop.weights import plain_weight, want_weight
from textworkshop.wordways import (
    FirstMachine, KindReplaceMachine, OnceMachine, ReplaceMachine, WantMachine)

# Signs that nothing names all do the same; two of them can be unlike where results are compared.
SPARE_SIGNS = 2


class Part:
    """A step of a script that is asked about: with its tongue, its number there, and the table of its guard.

    Raises TooHeavy if its guard is too heavy.
    """

    def __init__(self, step, tongue, number):
        self.step = step
        self.tongue = tongue
        self.number = number
        self.table = None if step.guard is None else guard_set(step.guard, tongue).table
        self.weight = plain_weight(step, tongue) if self.table is None else want_weight(self.table.states)
        self.named = named_signs(step, tongue, self.table)

    def ways(self, signs, refusing):
        """The ways of the step for texts of these signs; those on which it refuses only if they are asked for."""
        return met_ways(signs, self._machine_of(signs, refusing))

    def _machine_of(self, signs, refusing):
        """The machine of the step."""
        step = self.step
        match step.word:
            case "replace":
                if step.kind is not None:
                    return KindReplaceMachine(step, self.tongue, signs)
                return ReplaceMachine(step) if step.test is None else LineReplaceMachine(step)
            case "first":
                return FirstMachine(step)
            case "once":
                return OnceMachine(step, self.number, refusing)
            case "drop" | "keep":
                return LinesMachine(step)
            case "ahead" | "above":
                return AheadMachine(step, put_word(step))
            case "behind" | "below":
                return BehindMachine(step, put_word(step))
            case "strip":
                return StripMachine(step)
            case _:
                return WantMachine(self.table, self.number, refusing)


def check_number(script, number):
    """Raises BadNumber unless it is the number of a step."""
    if not is_whole(number) or not 0 <= number < len(script.steps):
        raise BadNumber("number", number)


def named_signs(step, tongue, table):
    """The signs that a step tells apart, or puts."""
    told = [word for word in (step.old, step.new) if word is not None]
    if step.kind is not None:
        told.append(mark_signs(tongue))
    if step.test is not None:
        told.append(LineMachine(step.test).named)
    if table is not None:
        told.append(table.named)
    return "".join(told)


def parts_of(script):
    """The parts of a script; raises TooHeavy for the first guard that is too heavy."""
    return [Part(step, script.tongue, number) for number, step in enumerate(script.steps)]


def check_question(parts, sets, weight=1):
    """Raises TooHeavy if the parts and the sets of a question, each as often as it counts, are too heavy together.

    weight is what else counts.
    """
    for part in parts:
        weight *= part.weight
    for texts in sets:
        weight *= 1 if texts is None else texts.table.states
    check_weight(weight)


def named_in(parts, sets, word=""):
    """The signs that a question names, with the newline; word has what else is named."""
    told = "\n" + word + "".join([part.named for part in parts])
    told += "".join([texts.table.named for texts in sets if texts is not None])
    return "".join([sign for sign in all_signs() if sign in told])


def question_signs(parts, sets, spare=SPARE_SIGNS, word=""):
    """The signs of which the texts of a question are made: the named ones, and some of the others."""
    named = named_in(parts, sets, word)
    others = [sign for sign in all_signs() if sign not in named][:spare]
    return "".join([sign for sign in all_signs() if sign in named or sign in others])


def script_links(parts, signs, refusing=False):
    """The ways of each of the parts."""
    return [part.ways(signs, refusing) for part in parts]


def set_links(texts, signs):
    """The ways that let just the texts of a set as they are; none for all texts."""
    return [] if texts is None else [met_ways(signs, TableMachine(texts.table))]


def script_ways(parts, signs, under=None, refusing=False):
    """The ways of the parts one behind the other, for the texts of a set."""
    return chained(signs, set_links(under, signs) + script_links(parts, signs, refusing))
