"""Twins: places that copy the files of home (points 8.4 to 8.8)."""

from lethe.drives import Drive
from lethe.errors import Full, NotAllowed
from lethe.letters import ask_letter, check_event, check_twin, done_letter, read_letter
from lethe.pieces import HOME_CELLS

# The numbers of events begin with 1.
NO_QUESTION = 0


class Twin:
    """A disk, an open question, and the parts of one answer to it."""

    def __init__(self, name, seed):
        check_twin(name)
        self._name = name
        self._drive = Drive(seed, HOME_CELLS)
        self._last_event = 0
        self._close()

    def medium(self):
        """Return the medium of the disk."""
        return self._drive.medium()

    def is_down(self):
        """Tell whether the twin is down."""
        return not self._drive.is_up()

    def ask(self, event):
        """Open the question with this number; return the letter."""
        self._drive.check_up()
        check_event(event)
        if event <= self._last_event:
            raise NotAllowed("a later question has a greater number")
        self._close()
        self._last_event = event
        self._question = event
        return ask_letter(self._name, event)

    def question(self):
        """Return the open question, or 0."""
        self._drive.check_up()
        return self._question

    def waiting(self):
        """Return the indexes of the parts that the twin has, ascending."""
        self._drive.check_up()
        return sorted(self._rows)

    def take(self, letter):
        """Take a letter; return a word and the letters that the twin sends."""
        parsed = read_letter(letter)
        self._drive.check_up()
        if self._is_old(parsed):
            return "old", []
        _, _, question, moment, index, count, name, data = parsed
        if moment > self._moment:
            self._rows = {}
        self._moment = moment
        self._count = count
        self._rows[index] = (name, data)
        if len(self._rows) < count:
            return "kept", []
        word = self._write()
        return word, [done_letter(self._name, question, moment)] if word == "written" else []

    def files(self):
        """Return the data of all files by their names."""
        return self._drive.files()

    def blocks(self):
        """Return all blocks of the disk."""
        return self.medium().blocks()

    def restart(self):
        """Mount the disk, with no open question; the twin is down if it has no power."""
        self._close()
        if self.medium().is_down():
            self._drive.shut()
            return "down"
        return "down" if self._drive.restart() == "down" else "ok"

    def _close(self):
        """Have no open question and no parts."""
        self._question = NO_QUESTION
        self._moment = 0
        self._count = 0
        self._rows = {}

    def _is_old(self, parsed):
        """Tell whether a letter is nothing that the twin waits for."""
        if parsed[:3] != ("part", self._name, self._question):
            return True
        moment, index, count = parsed[3:6]
        if moment != self._moment:
            return moment < self._moment
        return index in self._rows or count != self._count

    def _write(self):
        """Let the disk have the files of the whole answer alone; return how that went."""
        rows = [self._rows[index] for index in sorted(self._rows)]
        # The one part of an answer without files has no name.
        files = {name: data for name, data in rows if name != ""}
        has_twice = len(files) != self._count
        self._close()
        if has_twice:
            return "full"
        try:
            return "written" if self._drive.replace_files(files) else "lost"
        except Full:
            return "full"
