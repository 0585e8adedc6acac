"""How dear steps and scripts are, if something is asked of them for all texts."""

from textworkshop.errors import NoTongue
from textworkshop.guardsets import guard_set, linetest_weight


def test_guess(test):
    """1 if the truth of a test is known where a line begins, and 2 otherwise."""
    if test.word == "from":
        return max(test_guess(test.first), test_guess(test.second))
    return 1 if test.word in ("all", "number") else 2


def step_weight(step, *, tongue=None):
    """How dear a step is; raises NoTongue, TooHeavy."""
    if tongue is None and step.asks_kinds:
        raise NoTongue(0)
    if step.word == "want":
        return want_weight(guard_set(step.guard, tongue).table.states)
    return plain_weight(step, tongue)


def script_weight(script):
    """How dear a script is; raises TooHeavy."""
    weight = 1
    for step in script.steps:
        weight *= step_weight(step, tongue=script.tongue)
    return weight


def want_weight(states):
    """How dear a want is, the guard of which has so many states."""
    return 2 * states


def plain_weight(step, tongue):
    """How dear a step is that is no want."""
    on_lines = 1 if step.test is None else linetest_weight(step.test) * test_guess(step.test)
    match step.word:
        case "replace":
            return (2 * len(step.old) - 1) * on_lines * (1 if step.kind is None else tongue.weight)
        case "first":
            return 2 * len(step.old)
        case "once":
            return 5 * len(step.old)
        case "drop" | "keep":
            return 2 * on_lines
        case "strip":
            return (2 * len(step.old) + 1) * on_lines
        case _:
            return on_lines
