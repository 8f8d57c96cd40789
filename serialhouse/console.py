"""The console: formats kept under names, commands that ask for what is known of them."""

from serialhouse.answers import answer_to
from serialhouse.commands import FORMS, command_read
from serialhouse.errors import InvalidCommand, NoName, NothingToUndo
from serialhouse.joining import both, either, without


class Console:
    """Keeps formats under names; what they were ahead of each change is kept, too."""

    def __init__(self):
        self._kept = {}
        self._past = []

    def run(self, command):
        """The answer to any value that is a command; raises InvalidCommand, NoName, NothingToUndo."""
        read = command_read(command)
        if read is None:
            raise InvalidCommand()
        name, parts = read
        told = [self._form(part) if sign == "N" else part for sign, part in zip(FORMS[name], parts)]
        if name == "undo":
            return self._undo()
        if name == "drop":
            return self._change(parts[0], None)
        if name == "keep":
            return self._change(told[0], told[1])
        if name in ("both", "either", "without"):
            return self._change(told[0], joined_by(name, told[1], told[2]))
        return answer_to(name, told)

    def _form(self, name):
        """The format that is kept under a name; raises NoName."""
        if name not in self._kept:
            raise NoName(name)
        return self._kept[name]

    def _change(self, name, form):
        """Keeps a format under a name, or nothing if it is None."""
        self._past.append((name, self._kept.get(name)))
        self._give(name, form)
        return "ok"

    def _undo(self):
        """Takes the last change back; raises NothingToUndo."""
        if not self._past:
            raise NothingToUndo()
        name, form = self._past.pop()
        self._give(name, form)
        return "ok"

    def _give(self, name, form):
        """Gives a name to a format, to none if it is None."""
        if form is not None:
            self._kept[name] = form
        elif name in self._kept:
            del self._kept[name]


def joined_by(name, one, other):
    """Two formats joined by a command."""
    if name == "both":
        return both(one, other)
    if name == "either":
        return either(one, other)
    return without(one, other)
