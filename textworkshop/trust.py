"""Scripts that can be trusted at a file."""

from textworkshop.carried import broken_text
from textworkshop.guardsets import guard_set
from textworkshop.textsets import all_texts


def is_trusted(desk, name, label):
    """Whether a script keeps all guards of a file for all texts; raises NoFile, NoScript, TooHeavy, TooMany."""
    return trust_gap(desk, name, label) is None


def trust_gap(desk, name, label):
    """None if a script is trusted at a file, otherwise the first of the shortest texts against it."""
    guards, tongue = desk.file_guards(name), desk.tongue_of(name)
    script = desk.script_of(label)
    kept = all_texts()
    for guard in guards:
        kept = kept & guard_set(guard, tongue)
    return broken_text(script, kept, under=kept)
