"""Records: scripts of what is done at a desk."""

from textworkshop.errors import MixedTongues, NothingNoted
from textworkshop.scripts import Script


class Recorder:
    """Notes the scripts that are done at a desk."""

    def __init__(self, desk):
        self._desk = desk
        self._noted = []

    def do_script(self, name, label):
        """Does a script as the desk does, and notes its steps; raises what the desk raises."""
        self._desk.do_script(name, label)
        self._noted.append(self._desk.script_of(label))

    def script(self):
        """The script of all steps that were noted; raises NothingNoted, MixedTongues, TooMany."""
        steps = [step for noted in self._noted for step in noted.steps]
        if not steps:
            raise NothingNoted()
        tongue = self._noted[0].tongue
        if any([noted.tongue != tongue for noted in self._noted]):
            raise MixedTongues()
        return Script(steps, tongue)

    def clear(self):
        """Notes nothing any more of what was done."""
        self._noted = []
