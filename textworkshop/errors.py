"""All errors of the package, each with its fields as attributes."""


class WorkshopError(ValueError):
    """What all errors of the package are."""


class BadText(WorkshopError):
    """A text has not the form that is asked for, from this place on."""

    def __init__(self, line, column):
        self.line = line
        self.column = column


class BadWord(WorkshopError):
    """An argument is no such word, text or object."""

    def __init__(self, what):
        self.what = what


class BadNumber(WorkshopError):
    """An argument is no such number."""

    def __init__(self, what, number):
        self.what = what
        self.number = number


class BadStep(WorkshopError):
    """An entry of a list is no step."""

    def __init__(self, number):
        self.number = number


class TooMany(WorkshopError):
    """There are more than may be."""

    def __init__(self, what, many, limit):
        self.what = what
        self.many = many
        self.limit = limit


class TooHeavy(WorkshopError):
    """A question is heavier than may be."""

    def __init__(self, weight):
        self.weight = weight


class Refused(WorkshopError):
    """A step refuses the text."""

    def __init__(self, number):
        self.number = number


class NoTongue(WorkshopError):
    """Something asks for kinds, and there is no tongue."""

    def __init__(self, number):
        self.number = number


class BadName(WorkshopError):
    """A value is no name."""

    def __init__(self, name):
        self.name = name


class TakenName(WorkshopError):
    """Another file or script has the name."""

    def __init__(self, name):
        self.name = name


class NoFile(WorkshopError):
    """No file has the name."""

    def __init__(self, name):
        self.name = name


class NoScript(WorkshopError):
    """No script has the name."""

    def __init__(self, name):
        self.name = name


class NoGuard(WorkshopError):
    """A file has no guard with this number."""

    def __init__(self, name, number):
        self.name = name
        self.number = number


class Broken(WorkshopError):
    """A file would break a guard."""

    def __init__(self, name, number):
        self.name = name
        self.number = number


class BadPlace(WorkshopError):
    """A value is no place of the text."""

    def __init__(self, place):
        self.place = place


class NoLine(WorkshopError):
    """A text has no line with this number."""

    def __init__(self, number):
        self.number = number


class Touched(WorkshopError):
    """A hidden lot would be touched."""

    def __init__(self, number):
        self.number = number


class AllLines(WorkshopError):
    """No line of a file would be left."""

    def __init__(self, name):
        self.name = name


class NoHidden(WorkshopError):
    """No hidden lot has this number."""

    def __init__(self, number):
        self.number = number


class Unlike(WorkshopError):
    """Two scripts are not alike, as this text shows."""

    def __init__(self, text):
        self.text = text


class Conflict(WorkshopError):
    """Two scripts are in conflict at a piece of the text."""

    def __init__(self, start, stop):
        self.start = start
        self.stop = stop


class MayConflict(WorkshopError):
    """Two scripts are in conflict on this text."""

    def __init__(self, text):
        self.text = text


class NothingNoted(WorkshopError):
    """A recorder has noted no steps."""


class MixedTongues(WorkshopError):
    """The scripts that were noted have unlike tongues."""


class NothingToUndo(WorkshopError):
    """There is no change to be taken back."""


class NothingToRedo(WorkshopError):
    """There is no change to be done again."""
