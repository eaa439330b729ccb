"""The post: letters that are under way (point 8.2)."""

from lethe.errors import Missing
from lethe.letters import read_letter

MAX_LETTERS = 40


class Post:
    """Letters in a row."""

    def __init__(self):
        self._row = []

    def send(self, letter):
        """Put a letter at the end of the row; return False if it is lost, as there is no room."""
        # Nothing but a letter is sent; what it says does not matter here.
        read_letter(letter)
        if self.room() <= 0:
            return False
        self._row.append(letter)
        return True

    def letters(self):
        """Return the letters, in order."""
        return list(self._row)

    def size(self):
        """Return the number of letters."""
        return len(self._row)

    def room(self):
        """Return how many letters can still be sent."""
        return MAX_LETTERS - len(self._row)

    def deliver(self, index):
        """Remove a letter from the row and return it."""
        self._check_there(index)
        return self._row.pop(index)

    def lose(self, index):
        """Remove a letter."""
        self._check_there(index)
        del self._row[index]

    def double(self, index):
        """Put a copy of a letter behind it; return False if there is no room."""
        self._check_there(index)
        if self.room() <= 0:
            return False
        self._row.insert(index + 1, self._row[index])
        return True

    def _check_there(self, index):
        if index < 0 or index >= len(self._row):
            raise Missing("there is no letter at this index")
