"""Tables: pairs in cells that depend only on the pairs (points 1.8 to 1.11)."""

from lethe.errors import BadForm, Full, Missing, NotAllowed
from lethe.layouts import coin_item, layout, turn_of
from lethe.packing import pack, part_at

MAX_KEY = 40
MAX_VALUE = 600
MAX_PAIRS = 300

LEAST_CELLS = 8


class Table:
    """Pairs of a key and a value, with different keys."""

    def __init__(self, seed):
        self._seed = seed
        self._values = {}

    def put(self, key, value):
        """Give the key this value."""
        if not is_pair(key, value):
            raise NotAllowed("a key or a value has a length that is not allowed")
        if key not in self._values and len(self._values) == MAX_PAIRS:
            raise Full("a table has at most 300 pairs")
        self._values[key] = value

    def drop(self, key):
        """Remove the pair of the key."""
        if key not in self._values:
            raise Missing("there is no such key")
        del self._values[key]

    def value_of(self, key):
        """Return the value of the key."""
        if key not in self._values:
            raise Missing("there is no such key")
        return self._values[key]

    def has(self, key):
        """Tell whether the key is there."""
        return key in self._values

    def size(self):
        """Return the number of pairs."""
        return len(self._values)

    def pairs(self):
        """Return the pairs in ascending order of keys."""
        return [(key, self._values[key]) for key in sorted(self._values)]

    def cells(self):
        """Return the pair of each cell, or None where it is free."""
        pairs = self.pairs()
        items = [coin_item(self._seed, key) for key, _ in pairs]
        return [None if k < 0 else pairs[k] for k in layout(cells_for(len(pairs)), items)]

    def image(self):
        """Return the image (point 1.9)."""
        return f"{self.size()};" + "".join([cell_image(cell) for cell in self.cells()])

    def looks(self, key):
        """Return how many cells are looked at to find the key."""
        cells = self.cells()
        item = coin_item(self._seed, key)
        at = item[0] % len(cells)
        count = 1
        # There is always a free cell, so the search ends.
        while not ends_search(self._seed, cells[at], item):
            at = (at + 1) % len(cells)
            count += 1
        return count


def is_pair(key, value):
    """Tell whether a table may have this key and this value."""
    return 1 <= len(key) <= MAX_KEY and len(value) <= MAX_VALUE


def cells_for(pair_count):
    """Return the number of cells of a table with so many pairs."""
    count = LEAST_CELLS
    while 4 * pair_count > 3 * count:
        count = 2 * count
    return count


def cell_image(cell):
    """Return the image of one cell."""
    if cell is None:
        return "."
    return pack([cell[0], cell[1]])


def ends_search(seed, cell, item):
    """Tell whether the search for an item ends at a cell."""
    return cell is None or turn_of(coin_item(seed, cell[0])) >= turn_of(item)


def load_table(seed, image):
    """Return the table of the seed whose image the text is."""
    table = Table(seed)
    for key, value in image_pairs(image):
        if not is_pair(key, value) or table.size() == MAX_PAIRS:
            raise BadForm("the image has a pair that is not allowed")
        table.put(key, value)
    # Only the image itself tells that each cell and the number are right.
    if table.image() != image:
        raise BadForm("the text is not the image of a table of this seed")
    return table


def image_pairs(image):
    """Return the pairs that a text shows, wherever they lie."""
    pairs = []
    at = image.find(";") + 1
    while at < len(image):
        if image[at] == ".":
            at += 1
        else:
            key, at = part_at(image, at)
            value, at = part_at(image, at)
            pairs.append((key, value))
    return pairs
