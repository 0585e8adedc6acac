"""How the rules of a tongue read a text from the left.

A mode is what a reading knows between two marks: a tuple of the number of the
rule whose piece is open, its depth, and 1 if the next sign is escaped, or
CODE. In each mode some marks can come, and each of them leads to a mode.
"""

CODE = (-1, 0, 0)


class Reader:
    """Reads texts by rules."""

    def __init__(self, rules):
        self.parts = rules
        marks = {CODE: longest_first([(rule.opener, (number, 1, 0)) for number, rule in enumerate(rules)])}
        for number, rule in enumerate(rules):
            for depth in range(1, max(rule.nested, 1) + 1):
                marks[(number, depth, 0)] = longest_first(piece_marks(rule, number, depth))
        self._marks = marks

    def passed(self, mode, text, place, ended):
        """The mode behind what is read at a place, the place behind it, and its kind.

        None if this cannot be known, as the text has not ended and the signs
        from the place on may be the beginning of a longer mark.
        """
        number, depth, escaped = mode
        if escaped:
            return (number, depth, 0), place + 1, self.parts[number].kind
        kind = self.parts[number].kind if number >= 0 else "c"
        if number >= 0 and text[place] == self.parts[number].escape:
            return (number, depth, 1), place + 1, kind
        if not ended and self.is_beginning(mode, text, place):
            return None
        for mark, behind in self._marks[mode]:
            if text.startswith(mark, place):
                return behind, place + len(mark), kind if number >= 0 else self.parts[behind[0]].kind
        if number >= 0 and text[place] == "\n" and self.parts[number].line:
            return CODE, place, kind
        return mode, place + 1, kind

    def is_beginning(self, mode, text, place):
        """Whether all signs from a place on are the beginning of a longer mark of a mode."""
        marks = self._marks[mode]
        many = len(text) - place
        if not marks or many >= len(marks[0][0]):
            return False
        rest = text[place:]
        return any([len(mark) > many and mark.startswith(rest) for mark, _ in marks])

    def read(self, mode, text, ended):
        """The mode behind what can be read, the place behind it, and its kinds."""
        place = 0
        kinds = []
        while place < len(text):
            step = self.passed(mode, text, place, ended)
            if step is None:
                break
            mode, behind, kind = step
            kinds.append(kind * (behind - place))
            place = behind
        return mode, place, "".join(kinds)


def piece_marks(rule, number, depth):
    """The marks that can come in a piece, with the modes to which they lead."""
    marks = []
    if rule.closer:
        marks.append((rule.closer, (number, depth - 1, 0) if depth > 1 else CODE))
    if depth < rule.nested:
        marks.append((rule.opener, (number, depth + 1, 0)))
    if rule.doubled:
        marks.append((rule.closer * 2, (number, depth, 0)))
    return marks


def longest_first(marks):
    """The marks, longer ones first: the longest one that stands at a place is read."""
    return tuple(sorted(marks, key=lambda mark: -len(mark[0])))
