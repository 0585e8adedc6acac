"""The rules of a tongue, and how they are read from its lines."""

from textworkshop.errors import BadText

MOST_RULES = 6
LONGEST_MARK = 4
MARK_SIGNS = "!\"#$&'()*+,-./:;<=>?@[\\]^`{|}~"
KINDS = ("remark", "quote")
DEPTHS = ("2", "3", "4")
OPTIONS = ("nested", "escape", "doubled", "line")


class Rule:
    """A rule: the kind of its pieces, their marks, and its options.

    closer is the empty text if CLOSE is the word line; nested is 0 and escape
    the empty text if there is no such option; line tells whether a newline
    ends a piece.
    """

    def __init__(self, words):
        options = words[4:]
        self.kind = words[0][0]
        self.opener = words[1]
        self.closer = "" if words[3] == "line" else words[3]
        self.nested = int(options[options.index("nested") + 1]) if "nested" in options else 0
        self.escape = options[options.index("escape") + 1] if "escape" in options else ""
        self.doubled = "doubled" in options
        self.line = words[3] == "line" or "line" in options


def read_rules(text):
    """The rules of a tongue; raises BadText at the first wrong place."""
    rules = []
    openers = []
    for number, line in enumerate(text.split("\n") if text else [], start=1):
        column = 1 if number > MOST_RULES else wrong_column(line, openers)
        if column is not None:
            raise BadText(number, column)
        rules.append(Rule(line.split(" ")))
        openers.append(rules[-1].opener)
    return tuple(rules)


def wrong_column(line, openers):
    """The column at which a line goes wrong behind lines with these opening marks, None if it does not."""
    words = line.split(" ")
    column = 1
    for place, word in enumerate(words):
        if not can_stand(words[:place], word, openers):
            return column
        column += len(word) + 1
    if len(words) < 4 or words[-1] in ("nested", "escape"):
        return len(line) + 1
    return None


def can_stand(ahead, word, openers):
    """Whether a word can stand in a rule behind the words ahead of it."""
    if not ahead:
        return word in KINDS
    if len(ahead) == 1:
        return is_mark(word) and word not in openers
    if len(ahead) == 2:
        return word == "to"
    if len(ahead) == 3:
        return word == "line" or is_mark(word)
    if ahead[-1] == "nested":
        return word in DEPTHS
    if ahead[-1] == "escape":
        return is_mark(word) and len(word) == 1
    return option_can_stand(ahead, word)


def option_can_stand(ahead, word):
    """Whether an option can stand behind the words of a rule."""
    if word not in OPTIONS:
        return False
    given = ahead[4:]
    if any([option in given for option in OPTIONS[OPTIONS.index(word):]]):
        return False
    if word == "escape":
        return True
    if word == "nested":
        return ahead[0] == "remark" and ahead[3] not in ("line", ahead[1])
    return ahead[3] != "line" and not (word == "doubled" and "nested" in given)


def is_mark(word):
    """Whether a word is a mark."""
    return 1 <= len(word) <= LONGEST_MARK and all([sign in MARK_SIGNS for sign in word])


def rule_weight(rule):
    """What a rule adds to the weight of its tongue."""
    many = len(rule.closer) - 1 if rule.closer else 0
    if rule.nested:
        many += len(rule.opener) - 1
    if rule.doubled:
        many = 2 * len(rule.closer) - 1
    if rule.escape:
        many += 1
    return len(rule.opener) - 1 + max(rule.nested, 1) * (1 + many)
