"""The effects of a realm, in the order in which they happened (point 10.4)."""


class History:
    """Rows of effects, one for each line or act that has some or was lost."""

    def __init__(self):
        self._rows = []
        # The index of the row of what each place has lost, and its effects as far as they are known.
        self._lost = {}

    def effects(self):
        """Return all effects, in order."""
        found = []
        for row in self._rows:
            found.extend(row)
        return found

    def note(self, effects):
        """Add effects at the end."""
        self._rows.append(list(effects))

    def lose(self, place, effects):
        """Keep a place in the order for what was lost, as it is not known yet whether it was made."""
        self._lost[place] = (len(self._rows), list(effects))
        self._rows.append([])

    def resolve(self, place, was_made, effects):
        """Note whether what a place has lost, if it was a line or an act, was made, and more effects of it."""
        index, known = self._lost.pop(place, (-1, []))
        if index >= 0 and was_made:
            self._rows[index] = known + effects
