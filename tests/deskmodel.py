"""A desk in plain words: its files are lists of the lines of the whole text, each with the number of its lot, or None."""

from copy import deepcopy

from textworkshop import errors
from textworkshop.alikes import unlike_text
from textworkshop.merges import merged_hunks
from textworkshop.origins import fates_of


class ModelFile:
    def __init__(self, text, tongue):
        self.lines = [(line, None) for line in text.split("\n")]
        self.tongue, self.guards, self.next = tongue, [], 0

    def shown(self):
        return "\n".join(line for line, lot in self.lines if lot is None)

    def whole(self):
        return "\n".join(line for line, _ in self.lines)

    def lots(self):
        """Each lot with the number of the shown lines ahead of it, and its lines, in the order of the whole text."""
        found, shown = {}, 0
        for line, lot in self.lines:
            if lot is None:
                shown += 1
            else:
                found.setdefault(lot, (shown, []))[1].append(line)
        return found

    def hidden(self):
        starts = [0]
        for line in self.shown().split("\n"):
            starts.append(starts[-1] + len(line) + 1)
        many = len(starts) - 1
        return [(lot, None if at == many else starts[at], "\n".join(lines)) for lot, (at, lines) in self.lots().items()]

    def hide(self, name, first, last):
        places = [at for at, (_, lot) in enumerate(self.lines) if lot is None]
        if not 1 <= first <= len(places):
            raise errors.NoLine(first)
        if not 1 <= last <= len(places) or last < first:
            raise errors.NoLine(last)
        if last - first + 1 == len(places):
            raise errors.AllLines(name)
        between = [lot for _, lot in self.lines[places[first - 1]:places[last - 1]] if lot is not None]
        if between:
            raise errors.Touched(min(between))
        for at in range(places[first - 1], places[last - 1] + 1):
            self.lines[at] = (self.lines[at][0], self.next)
        self.next += 1
        return self.next - 1

    def show(self, number):
        if number not in self.lots():
            raise errors.NoHidden(number)
        self.lines = [(line, None if lot == number else lot) for line, lot in self.lines]

    def deed(self, name, hunks):
        """Signs and lots in one row: hunks take signs away and put others; lots keep their place in the row."""
        text, hidden = self.shown(), self.hidden()
        row, torn = [], []
        for at in range(len(text) + 1):
            for lot, place, _ in hidden:
                if place == at:
                    row.append(lot)
                    torn += [lot for start, stop, _ in hunks if start < at < stop]
            for start, stop, word in hunks:
                if start == at == stop:
                    row += list(word)
                if stop == at and start < at:
                    # What is put in the place of signs stands where they stood: ahead of lots that stand behind them.
                    behind = len(row)
                    while behind and row[behind - 1] in [lot for lot, place, _ in hidden if place == at]:
                        behind -= 1
                    row[behind:behind] = list(word)
            if at < len(text) and not any(start <= at < stop for start, stop, _ in hunks):
                row.append(text[at])
        fresh = "".join(item for item in row if isinstance(item, str))
        lines, lots = [(line, None) for line in fresh.split("\n")], {}
        for at, item in enumerate(row):
            if not isinstance(item, str):
                ahead = "".join(told for told in row[:at] if isinstance(told, str))
                if ahead and not ahead.endswith("\n"):
                    torn.append(item)
                lots[item] = ahead.count("\n")
        if torn:
            raise errors.Touched(min(torn))
        made = []
        for at, line in enumerate(lines):
            for lot, place in lots.items():
                if place == at:
                    made += [(told, lot) for told in self.lots()[lot][1]]
            made.append(line)
        for lot, place, told in hidden:
            if place is None:
                made += [(line, lot) for line in told.split("\n")]
        old, self.lines = self.lines, made
        for number, guard in enumerate(self.guards):
            if not guard.holds_of(self.whole(), self.tongue):
                self.lines = old
                raise errors.Broken(name, number)


class ModelDesk:
    def __init__(self):
        self.files, self.scripts = {}, {}
        self.past, self.future = [], []

    def state(self):
        return deepcopy((self.files, self.scripts))

    def told(self):
        return [(name, file.shown(), file.whole(), file.hidden(), tuple(file.guards))
                for name, file in self.files.items()], list(self.scripts)

    def file(self, name):
        if not isinstance(name, str) or name not in self.files:
            raise errors.NoFile(name)
        return self.files[name]

    def script(self, name):
        if not isinstance(name, str) or name not in self.scripts:
            raise errors.NoScript(name)
        return self.scripts[name]

    def act(self, how, *args):
        """Does a call; a call that raises no error is one change, but for undo and redo."""
        if how in ("undo", "redo"):
            return self.turn(*(self.past, self.future, errors.NothingToUndo) if how == "undo" else
                             (self.future, self.past, errors.NothingToRedo))
        held = self.state()
        try:
            value = getattr(self, "do_" + how)(*args)
        except errors.WorkshopError:
            self.files, self.scripts = held
            raise
        self.past.append(held)
        self.future.clear()
        return value

    def turn(self, source, target, error):
        if not source:
            raise error()
        target.append(self.state())
        self.files, self.scripts = source.pop()

    def check_new(self, things, name):
        if not isinstance(name, str) or not 1 <= len(name) <= 12 or set(name) - set("abcdefghijklmnopqrstuvwxyz"):
            raise errors.BadName(name)
        if name in things:
            raise errors.TakenName(name)

    def check_part(self, text, start, stop):
        if not 0 <= start <= len(text):
            raise errors.BadPlace(start)
        if not 0 <= stop <= len(text) or stop < start:
            raise errors.BadPlace(stop)

    def do_open_file(self, name, text, tongue):
        self.check_new(self.files, name)
        self.files[name] = ModelFile(text, tongue)

    def do_close_file(self, name):
        self.file(name)
        del self.files[name]

    def do_add_guard(self, name, guard):
        file = self.file(name)
        if guard.asks_kinds and file.tongue is None:
            raise errors.NoTongue(len(file.guards))
        if not guard.holds_of(file.whole(), file.tongue):
            raise errors.Broken(name, len(file.guards))
        file.guards.append(guard)

    def do_remove_guard(self, name, number):
        file = self.file(name)
        if type(number) is not int or number not in range(len(file.guards)):
            raise errors.NoGuard(name, number)
        del file.guards[number]

    def do_keep_script(self, name, script):
        self.check_new(self.scripts, name)
        self.scripts[name] = script

    def do_drop_script(self, name):
        self.script(name)
        del self.scripts[name]

    def do_exchange_script(self, name, script):
        text = unlike_text(self.script(name), script)
        if text is not None:
            raise errors.Unlike(text)
        self.scripts[name] = script

    def do_do_script(self, name, label):
        file = self.file(name)
        file.deed(name, fates_of(self.script(label), file.shown()).hunks)

    def do_do_part(self, name, start, stop, label):
        file, script = self.file(name), self.script(label)
        self.check_part(file.shown(), start, stop)
        hunks = fates_of(script, file.shown()[start:stop]).hunks
        file.deed(name, [(start + one, start + two, word) for one, two, word in hunks])

    def do_write_text(self, name, place, text):
        file = self.file(name)
        self.check_part(file.shown(), place, place)
        file.deed(name, [(place, place, text)])

    def do_cut_text(self, name, start, stop):
        file = self.file(name)
        self.check_part(file.shown(), start, stop)
        file.deed(name, [(start, stop, "")])

    def do_merge_scripts(self, name, one, other):
        file = self.file(name)
        scripts = self.script(one), self.script(other)
        file.deed(name, merged_hunks(file.shown(), *scripts))

    def do_hide_lines(self, name, first, last):
        return self.file(name).hide(name, first, last)

    def do_show_lines(self, name, number):
        self.file(name).show(number)
