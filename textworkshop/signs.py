"""Signs, texts, words and lines."""

SIGNS = (
    "\n !\"#$&'()*+,-./0123456789:;<=>?@ABCDEFGHIJKLMNOPQRSTUVWXYZ"
    "[\\]^_`abcdefghijklmnopqrstuvwxyz{|}~"
)
LONGEST_WORD = 6


def all_signs():
    """The text of all signs, in their order."""
    return SIGNS


def is_sign(value):
    """Whether any value is a sign."""
    return isinstance(value, str) and len(value) == 1 and value in SIGNS


def is_text(value):
    """Whether any value is a text."""
    return isinstance(value, str) and all([sign in SIGNS for sign in value])


def is_word(value):
    """Whether any value is a word, perhaps with newlines."""
    return is_text(value) and 1 <= len(value) <= LONGEST_WORD


def is_patch(value):
    """Whether any value is a text of no more signs than a word may have, perhaps of none."""
    return is_text(value) and len(value) <= LONGEST_WORD


def is_whole(value):
    """Whether any value is an integer; truths are none."""
    return isinstance(value, int) and not isinstance(value, bool)


def lines_of(text):
    """The tuple of the lines of a text."""
    return tuple(text.split("\n"))


def text_of(lines):
    """The text with these lines; of no lines the empty text."""
    return "\n".join(lines)


def line_starts(text):
    """The tuple of the places at which the lines of a text begin."""
    starts = [0]
    starts.extend([place + 1 for place, sign in enumerate(text) if sign == "\n"])
    return tuple(starts)
