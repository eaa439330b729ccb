"""The log of a hall (points 6.2, 6.15, 6.16 and 6.20)."""

from lethe.errors import BadForm, Full
from lethe.lines import CHANGES, is_change_line, line_speaks_of
from lethe.packing import pack, unpack

MAX_LOG = 24


class Log:
    """The changes that were done in a hall's store, in order."""

    def __init__(self):
        self._lines = []

    def room(self):
        """Return how many lines can still be added."""
        return MAX_LOG - len(self._lines)

    def note(self, line):
        """Add a store line at the end."""
        if self.room() <= 0:
            raise Full("a log has at most 24 lines")
        self._lines.append(line)

    def lines(self):
        """Return the lines, in order."""
        return list(self._lines)

    def stats(self):
        """Return how many lines there are of each kind of change."""
        firsts = [line.partition(" ")[0] for line in self._lines]
        return " ".join([f"{word} {firsts.count(word)}" for word in CHANGES])

    def erase(self, key):
        """Remove the lines that speak of the key; return their number."""
        left = [line for line in self._lines if not line_speaks_of(line, key)]
        removed = len(self._lines) - len(left)
        self._lines = left
        return removed

    def image(self):
        """Return the text of the file of the log."""
        return pack(self._lines)


def load_log(text):
    """Return the log with this image."""
    log = Log()
    try:
        for line in unpack(text):
            log.note(read_change(line))
    except Full:
        raise BadForm("a log has at most 24 lines") from None
    return log


def read_change(line):
    """Return the line if it is a change."""
    if not is_change_line(line):
        raise BadForm("a line of a log is no change")
    return line
