"""The pins of a hall (points 6.2, 6.11, 6.16, 6.17 and 6.20)."""

from lethe.errors import BadForm, Full, Missing, Twice
from lethe.lines import is_question_line, line_speaks_of
from lethe.packing import pack, unpack
from lethe.words import is_name

MAX_PINS = 3

PARTS_OF_PIN = 3


class Pins:
    """Questions under names. Their kept answers are never stored, as they change with the store."""

    def __init__(self):
        self._questions = {}

    def keep(self, name, line):
        """Keep a question."""
        if name in self._questions:
            raise Twice("there is a pin of this name")
        if len(self._questions) >= MAX_PINS:
            raise Full("there are at most 3 pins")
        self._questions[name] = line

    def remove_one(self, name):
        """Remove a pin."""
        self._check_there(name)
        del self._questions[name]

    def line_of(self, name):
        """Return the question of a pin."""
        self._check_there(name)
        return self._questions[name]

    def names(self):
        """Return the names, ascending."""
        return sorted(self._questions)

    def erase(self, key):
        """Remove the pins whose questions speak of the key."""
        for name in self.names():
            if line_speaks_of(self._questions[name], key):
                del self._questions[name]

    def image(self, store):
        """Return the text of the file of the pins, with the answers of the store."""
        parts = []
        for name in self.names():
            line = self._questions[name]
            parts.extend([name, line, store.run(line)])
        return pack(parts)

    def _check_there(self, name):
        if name not in self._questions:
            raise Missing("there is no pin of this name")


def load_pins(text, store):
    """Return the pins whose image for the store the text is."""
    parts = unpack(text)
    if len(parts) % PARTS_OF_PIN != 0:
        raise BadForm("a part of a pin is missing")
    pins = Pins()
    try:
        for k in range(0, len(parts), PARTS_OF_PIN):
            check_pin(parts[k], parts[k + 1])
            pins.keep(parts[k], parts[k + 1])
    except (Twice, Full):
        raise BadForm("a name is there twice, or there are more than 3 pins") from None
    # Only the image itself tells that the names are ascending and the answers are those of the store.
    if pins.image(store) != text:
        raise BadForm("the names are not ascending, or an answer is not that of the store")
    return pins


def check_pin(name, line):
    """Raise an error if there can be no pin of this name with this line."""
    if not is_name(name) or not is_question_line(line):
        raise BadForm("the name of a pin is no name, or its line is no question")
