"""Desks: files that keep their guards through all that is done, and all of it can be taken back."""

from textworkshop.alikes import unlike_text
from textworkshop.deskfiles import DeskFile, done_file, hidden_file, shown_file, whole_of, with_guards
from textworkshop.errors import (
    BadName, BadPlace, Broken, NoFile, NoGuard, NoScript, NoTongue, NothingToRedo, NothingToUndo, TakenName, Unlike)
from textworkshop.merges import merged_hunks
from textworkshop.origins import fates_of
from textworkshop.signs import is_whole

LONGEST_NAME = 12
NAME_SIGNS = "abcdefghijklmnopqrstuvwxyz"


class Moment:
    """What a desk has at one moment, and the moment ahead of the change that led to it; it never changes."""

    def __init__(self, files, scripts, earlier):
        self.files = files
        self.scripts = scripts
        self.earlier = earlier


class Undone:
    """A change that was taken back: the moment behind it, and the changes that were taken back ahead of it."""

    def __init__(self, moment, others):
        self.moment = moment
        self.others = others


class Desk:
    """A desk with files and scripts under names."""

    def __init__(self):
        self._now = Moment({}, {}, None)
        self._undone = None

    def __getitem__(self, name):
        return self._file(name).shown

    def __contains__(self, name):
        return has_name(self._now.files, name)

    def __iter__(self):
        return iter(self._now.files)

    def _file(self, name):
        """The file with a name; raises NoFile."""
        if not has_name(self._now.files, name):
            raise NoFile(name)
        return self._now.files[name]

    def _change(self, files, scripts):
        """A change of the desk to these files and scripts."""
        self._now = Moment(files, scripts, self._now)
        self._undone = None

    def _set_file(self, name, file):
        """A change by which a file is opened, or another one stands in its place."""
        self._change({**self._now.files, name: file}, self._now.scripts)

    def _set_script(self, name, script):
        """A change by which a script is kept, or another one stands in its place."""
        self._change(self._now.files, {**self._now.scripts, name: script})

    def open_file(self, name, text, *, tongue=None):
        """Opens a file; raises BadName, TakenName."""
        check_new_name(self._now.files, name)
        self._set_file(name, DeskFile(text, tongue))

    def close_file(self, name):
        """Closes a file; raises NoFile."""
        self._file(name)
        self._change(others_than(self._now.files, name), self._now.scripts)

    def add_guard(self, name, guard):
        """Lets a file keep one more guard; raises NoFile, NoTongue, Broken."""
        file = self._file(name)
        number = len(file.guards)
        if guard.asks_kinds and file.tongue is None:
            raise NoTongue(number)
        if not guard.holds_of(whole_of(file.shown, file.lots), file.tongue):
            raise Broken(name, number)
        self._set_file(name, with_guards(file, [*file.guards, guard]))

    def remove_guard(self, name, number):
        """Takes a guard from a file; raises NoFile, NoGuard."""
        file = self._file(name)
        if not is_whole(number) or not 0 <= number < len(file.guards):
            raise NoGuard(name, number)
        self._set_file(name, with_guards(file, [*file.guards[:number], *file.guards[number + 1:]]))

    def file_guards(self, name):
        """The guards of a file; raises NoFile."""
        return self._file(name).guards

    def tongue_of(self, name):
        """The tongue of a file, or None; raises NoFile."""
        return self._file(name).tongue

    def keep_script(self, name, script):
        """Keeps a script; raises BadName, TakenName."""
        check_new_name(self._now.scripts, name)
        self._set_script(name, script)

    def script_of(self, name):
        """The script with a name; raises NoScript."""
        if not has_name(self._now.scripts, name):
            raise NoScript(name)
        return self._now.scripts[name]

    def drop_script(self, name):
        """Drops a script; raises NoScript."""
        self.script_of(name)
        self._change(self._now.files, others_than(self._now.scripts, name))

    def script_names(self):
        """The names of the scripts, in the order in which they were kept."""
        return list(self._now.scripts)

    def exchange_script(self, name, script):
        """Puts an alike script in the place of one; raises NoScript, TooHeavy, Unlike."""
        text = unlike_text(self.script_of(name), script)
        if text is not None:
            raise Unlike(text)
        self._set_script(name, script)

    def _do(self, name, hunks):
        """A deed with these hunks; raises Touched, Broken."""
        self._set_file(name, done_file(name, self._file(name), hunks))

    def do_script(self, name, label):
        """Runs a script on a file; raises NoFile, NoScript, Refused, Touched, Broken."""
        shown = self[name]
        self._do(name, fates_of(self.script_of(label), shown).hunks)

    def do_part(self, name, start, stop, label):
        """Runs a script on a part of a file; raises NoFile, NoScript, BadPlace, Refused, Touched, Broken."""
        shown = self[name]
        script = self.script_of(label)
        check_part(shown, start, stop)
        hunks = fates_of(script, shown[start:stop]).hunks
        self._do(name, [(start + first, start + last, word) for first, last, word in hunks])

    def write_text(self, name, place, text):
        """Puts a text into a file; raises NoFile, BadPlace, Touched, Broken."""
        check_part(self[name], place, place)
        self._do(name, [(place, place, text)])

    def cut_text(self, name, start, stop):
        """Takes a part out of a file; raises NoFile, BadPlace, Touched, Broken."""
        check_part(self[name], start, stop)
        self._do(name, [(start, stop, "")])

    def merge_scripts(self, name, one, other):
        """Does two scripts merged; raises NoFile, NoScript, Refused, Conflict, Touched, Broken."""
        shown = self[name]
        mine, yours = self.script_of(one), self.script_of(other)
        self._do(name, merged_hunks(shown, mine, yours))

    def hide_lines(self, name, first, last):
        """Hides lines of a file; returns the number of the lot. Raises NoFile, NoLine, AllLines, Touched."""
        file = self._file(name)
        self._set_file(name, hidden_file(name, file, first, last))
        return file.hidings

    def show_lines(self, name, number):
        """Puts a lot of hidden lines back; raises NoFile, NoHidden."""
        self._set_file(name, shown_file(self._file(name), number))

    def hidden_of(self, name):
        """The lots of hidden lines: tuples (number, place, text); raises NoFile."""
        return list(self._file(name).lots)

    def whole_text(self, name):
        """The shown text of a file with all hidden lines; raises NoFile."""
        file = self._file(name)
        return whole_of(file.shown, file.lots)

    def undo(self):
        """Takes the latest change back; raises NothingToUndo."""
        if self._now.earlier is None:
            raise NothingToUndo()
        self._undone = Undone(self._now, self._undone)
        self._now = self._now.earlier

    def redo(self):
        """Does the change again that was taken back last; raises NothingToRedo."""
        if self._undone is None:
            raise NothingToRedo()
        self._now = self._undone.moment
        self._undone = self._undone.others

    def attempt(self, action):
        """Calls action(desk) and returns what it returns; if an exception leaves it, the desk is as it was."""
        now, undone = self._now, self._undone
        is_done = None
        try:
            result = action(self)
            is_done = True
        finally:
            if is_done is None:
                self._now = now
                self._undone = undone
        return result


def is_name(value):
    """Whether any value is a name."""
    return isinstance(value, str) and 1 <= len(value) <= LONGEST_NAME and all([sign in NAME_SIGNS for sign in value])


def has_name(things, name):
    """Whether any value is one of the names of things."""
    return isinstance(name, str) and name in things


def check_new_name(things, name):
    """Raises BadName unless it is a name, and TakenName if another thing has it."""
    if not is_name(name):
        raise BadName(name)
    if name in things:
        raise TakenName(name)


def others_than(things, name):
    """The things with other names."""
    return {other: things[other] for other in things if other != name}


def check_part(shown, start, stop):
    """Raises BadPlace unless these are places of a text, in this order."""
    if not is_whole(start) or not 0 <= start <= len(shown):
        raise BadPlace(start)
    if not is_whole(stop) or not start <= stop <= len(shown):
        raise BadPlace(stop)
