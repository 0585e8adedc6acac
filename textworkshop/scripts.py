"""Scripts: steps that are done one after the other."""

from textworkshop.errors import BadStep, BadWord, NoTongue, TooMany
from textworkshop.steps import Step
from textworkshop.tongues import Tongue

MOST_STEPS = 6
MOST_GROWTH = 36


class Script:
    """A script of steps, with a tongue, perhaps none."""

    def __init__(self, steps, tongue=None):
        check_steps(steps, tongue)
        self.steps = tuple(steps)
        self.tongue = tongue
        self.growth = 1
        for step in self.steps:
            self.growth *= growth_of(step)
        if self.growth > MOST_GROWTH:
            raise TooMany("growth", self.growth, MOST_GROWTH)

    def __eq__(self, other):
        return isinstance(other, Script) and self.steps == other.steps and self.tongue == other.tongue


def check_steps(steps, tongue):
    """Raises the errors of what cannot be a script, but for its growth."""
    if len(steps) > MOST_STEPS:
        raise TooMany("steps", len(steps), MOST_STEPS)
    for number, step in enumerate(steps):
        if not isinstance(step, Step):
            raise BadStep(number)
    if tongue is not None and not isinstance(tongue, Tongue):
        raise BadWord("tongue")
    for number, step in enumerate(steps):
        if tongue is None and step.asks_kinds:
            raise NoTongue(number)


def growth_of(step):
    """How many times longer a step can make a text, by its longest word."""
    match step.word:
        case "replace" | "first" | "once":
            return max(1, len(step.new))
        case "ahead" | "behind":
            return 1 + len(step.new)
        case "above" | "below":
            return 2 + len(step.new)
        case _:
            return 1
