"""The transactions of sessions (points 6.2, 6.6, 6.7, 6.9, 6.16 and 6.26)."""

from lethe.hall_lines import is_done
from lethe.lines import is_change_line, line_speaks_of, read_line, spoken_of
from lethe.packing import pack
from lethe.records import record_value
from lethe.store import erase_record, is_held, store_of_map

MAX_SESSIONS = 3
MAX_NOTED = 8


class Transaction:
    """A store of its own, the records at its beginning, and the changes that were done since then."""

    def __init__(self, seed, image):
        self._seed = seed
        self._base = store_of_map(seed, image)
        self._own = store_of_map(seed, image)
        self._rows = []

    def run(self, line):
        """Run a store line in the own store; return the answer."""
        if is_change_line(line) and len(self._rows) >= MAX_NOTED:
            return "full"
        answered = self._own.run(line)
        if is_done(line, answered):
            self._rows.append((line, answered))
        return answered

    def noted(self):
        """Return the noted lines, each with its answer."""
        return list(self._rows)

    def conflicts(self, store):
        """Tell whether the transaction conflicts with what the hall's store has now."""
        for key in self._changed_keys():
            if shown_record(self._base, key) != shown_record(store, key):
                return True
        trial = store_of_map(self._seed, store.map_image())
        return [(line, trial.run(line)) for line, _ in self._rows] != self._rows

    def held(self, key):
        """Tell whether the record of the key in the own store has a holder."""
        return is_held(self._own, key)

    def erase(self, key):
        """Remove the record of the key and the noted lines that speak of the key."""
        erase_record(self._own, key)
        erase_record(self._base, key)
        self._rows = [row for row in self._rows if not line_speaks_of(row[0], key)]

    def images(self):
        """Return the images of the maps of the base and of the own store, and the packed noted lines."""
        parts = []
        for line, answered in self._rows:
            parts.extend([line, answered])
        return [self._base.map_image(), self._own.map_image(), pack(parts)]

    def _changed_keys(self):
        """Return the keys of the noted lines; each of them speaks of one key."""
        return [spoken_of(read_line(line))[0] for line, _ in self._rows]


def shown_record(store, key):
    """Return the value of the record of the key, or None if there is none."""
    return record_value(store.record_of(key)) if store.has(key) else None
