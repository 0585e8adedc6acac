"""Tongues: what of a text is code, what is remark and what is quote."""

from textworkshop.errors import BadNumber, BadPlace
from textworkshop.rules import read_rules, rule_weight
from textworkshop.signs import all_signs, is_whole
from textworkshop.stands import CODE, Reader


class Tongue:
    """A tongue, read from its text."""

    def __init__(self, text):
        rules = read_rules(text)
        self.text = text
        self.rules = tuple(text.split("\n")) if text else ()
        self.weight = 1 + sum([rule_weight(rule) for rule in rules])
        self.reader = Reader(rules)

    def __len__(self):
        return len(self.rules)

    def __iter__(self):
        return iter(self.rules)

    def __eq__(self, other):
        return isinstance(other, Tongue) and self.text == other.text

    def kinds(self, text):
        """The kinds of the signs of a text."""
        return self.reader.read(CODE, text, True)[2]

    def pieces(self, text):
        """Tuples (rule, start, end) of the pieces of a text, in its order."""
        mode, place, start = CODE, 0, 0
        while place < len(text):
            after, behind, _ = self.reader.passed(mode, text, place, True)
            if mode == CODE and after != CODE:
                start = place
            if mode != CODE and after == CODE:
                yield (mode[0], start, behind)
            mode, place = after, behind
        if mode != CODE:
            yield (mode[0], start, len(text))

    def piece_at(self, text, place):
        """The tuple of the piece to which a sign belongs, None if it is code."""
        if not is_whole(place) or not 0 <= place < len(text):
            raise BadPlace(place)
        for piece in self.pieces(text):
            if piece[1] <= place < piece[2]:
                return piece
        return None

    def line_kinds(self, text):
        """The kinds with which the lines of a text begin."""
        kinds = self.kinds(text)
        return "c" + "".join([kind for kind, sign in zip(kinds, text) if sign == "\n"])

    def is_closed(self, text):
        """Whether a newline put behind the text would be code."""
        return self.kinds(text + "\n")[-1] == "c"

    def closing(self, text):
        """The first one of the shortest texts that close a text, None if there is none."""
        # The blank stands for all signs that are in no mark: it is the least of them.
        signs = "\n " + mark_signs(self)
        mode, place, _ = self.reader.read(CODE, text, False)
        stands = [(mode, text[place:])]
        closings = {stands[0]: ""}
        at = 0
        while at < len(stands):
            mode, rest = stands[at]
            if self.reader.read(mode, rest + "\n", False)[2].endswith("c"):
                return closings[stands[at]]
            for sign in signs:
                after, place, _ = self.reader.read(mode, rest + sign, False)
                stand = (after, (rest + sign)[place:])
                if stand not in closings:
                    closings[stand] = closings[stands[at]] + sign
                    stands.append(stand)
            at += 1
        return None

    def without(self, index):
        """The tongue of the other rules."""
        if not is_whole(index) or not 0 <= index < len(self.rules):
            raise BadNumber("rule", index)
        return Tongue("\n".join([rule for number, rule in enumerate(self.rules) if number != index]))


def mark_signs(tongue):
    """The signs that are in a mark or an escape of a tongue, ascending."""
    told = "".join([rule.opener + rule.closer + rule.escape for rule in tongue.reader.parts])
    return "".join([sign for sign in all_signs() if sign in told])
