"""Edges between keys (points 5.30 to 5.33)."""

from lethe.errors import BadForm, Full, Missing, NotAllowed, Twice
from lethe.packing import number_of, pack, unpack
from lethe.words import is_name

MAX_EDGES = 24
MAX_KIND = 3

PARTS_OF_EDGE = 3


class Edges:
    """A set of edges, each a tuple of source, kind and target."""

    def __init__(self):
        # Always in order.
        self._rows = []

    def link(self, source, kind, target):
        """Add an edge."""
        check_edge(source, kind, target)
        if self.has(source, kind, target):
            raise Twice("the edge is there")
        if self.size() >= MAX_EDGES:
            raise Full("there are at most 24 edges")
        self._rows = sorted(self._rows + [(source, kind, target)])

    def unlink(self, source, kind, target):
        """Remove an edge."""
        check_edge(source, kind, target)
        if not self.has(source, kind, target):
            raise Missing("there is no such edge")
        self._rows = [row for row in self._rows if row != (source, kind, target)]

    def drop(self, key):
        """Remove the edges of a key; return their number."""
        check_key(key)
        before = self.size()
        self._rows = [row for row in self._rows if key not in (row[0], row[2])]
        return before - self.size()

    def has(self, source, kind, target):
        """Tell whether the edge is there."""
        return (source, kind, target) in self._rows

    def edges(self):
        """Return the edges, in order."""
        return list(self._rows)

    def size(self):
        """Return the number of edges."""
        return len(self._rows)

    def out_of(self, key):
        """Return the kinds and targets of the edges with this source, in order."""
        return [(kind, target) for source, kind, target in self._rows if source == key]

    def into(self, key):
        """Return the sources and kinds of the edges with this target, in order."""
        return [(source, kind) for source, kind, target in self._rows if target == key]

    def ends(self):
        """Return the sources and targets, ascending."""
        return sorted(set([row[0] for row in self._rows] + [row[2] for row in self._rows]))

    def image(self):
        """Return the image."""
        parts = []
        for source, kind, target in self._rows:
            parts.extend([source, str(kind), target])
        return pack(parts)


def check_key(key):
    """Raise an error if an edge may not have the key."""
    if not is_name(key):
        raise NotAllowed("a key has 1 to 4 small letters and digits")


def check_edge(source, kind, target):
    """Raise an error if there may be no such edge."""
    check_key(source)
    check_key(target)
    if kind < 0 or kind > MAX_KIND:
        raise NotAllowed("a kind is from 0 to 3")


def load_edges(image):
    """Return the edges whose image the text is."""
    parts = unpack(image)
    if len(parts) % PARTS_OF_EDGE != 0:
        raise BadForm("a part of an edge is missing")
    edges = Edges()
    try:
        for k in range(0, len(parts), PARTS_OF_EDGE):
            edges.link(parts[k], number_of(parts[k + 1]), parts[k + 2])
    except (NotAllowed, Twice, Full):
        raise BadForm("the image has an edge that is not allowed") from None
    # Only the image itself tells that the edges are in order.
    if edges.image() != image:
        raise BadForm("the edges are not in order")
    return edges
