"""Duties: keys that places have still to forget (points 9.1 and 9.2)."""

from lethe.errors import BadForm
from lethe.packing import pack, unpack
from lethe.words import is_name

PARTS_OF_DUTY = 2


class Duties:
    """The number at which each duty was noted, by its key and its place."""

    def __init__(self):
        self._noted = {}

    def note(self, key, place, number):
        """Add a duty, or note it anew."""
        self._noted[(key, place)] = number

    def remove_noted(self, place, number):
        """Remove the duties of a place that were noted before the number; tell whether there were any."""
        return self._remove([(key, place) for key in self.keys_of(place) if self._noted[(key, place)] < number])

    def remove_keys(self, place, key_list):
        """Remove the duties of a place for these keys; tell whether there were any."""
        return self._remove([(key, place) for key in self.keys_of(place) if key in key_list])

    def keys_of(self, place):
        """Return the keys that a place has still to forget, ascending."""
        return [key for key, other in self.pairs() if other == place]

    def places_of(self, key):
        """Return the places that have still to forget a key, ascending."""
        return [place for other, place in self.pairs() if other == key]

    def pairs(self):
        """Return the duties, ascending."""
        return sorted(self._noted)

    def image(self):
        """Return the text of the file of the duties."""
        parts = []
        for key, place in self.pairs():
            parts.extend([key, place])
        return pack(parts)

    def clone(self):
        """Return independent duties that are equal."""
        other = Duties()
        for key, place in self.pairs():
            other.note(key, place, self._noted[(key, place)])
        return other

    def _remove(self, pairs):
        for pair in pairs:
            del self._noted[pair]
        return len(pairs) > 0


def load_duties(text, number):
    """Return the duties of a text, each noted at the number."""
    parts = unpack(text)
    if len(parts) == 0 or len(parts) % PARTS_OF_DUTY != 0:
        raise BadForm("there are no duties, or a part of one is missing")
    if not all([is_name(part) for part in parts]):
        raise BadForm("a key or a place is no name")
    duties = Duties()
    for k in range(0, len(parts), PARTS_OF_DUTY):
        duties.note(parts[k], parts[k + 1], number)
    # Only the image itself tells that the duties are in order, and none is there twice.
    if duties.image() != text:
        raise BadForm("the duties are not in order")
    return duties
