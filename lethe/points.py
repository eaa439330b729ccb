"""Points under names (points 4.7 and 4.8)."""

from lethe.errors import BadForm, Full, Missing, NotAllowed, Twice
from lethe.order import Order, load_order
from lethe.packing import digits, number_of
from lethe.words import is_name

MAX_POINTS = 8
MAX_PLACE = 99
CODE_WIDTH = 5


def code(x, y):
    """Return the code of a point: the binary digits of x and y, taken in turn."""
    # Seven binary digits are enough for 99.
    return sum([((x >> i) & 1) * 4 ** i + ((y >> i) & 1) * 2 * 4 ** i for i in range(7)])


def is_point(x, y):
    """Tell whether there may be a point at x and y."""
    return 0 <= x <= MAX_PLACE and 0 <= y <= MAX_PLACE


class Points:
    """Points under names, each name once."""

    def __init__(self, seed):
        self._order = Order(seed)

    def put(self, key, x, y):
        """Know a point under a name."""
        if not is_name(key) or not is_point(x, y):
            raise NotAllowed("the key is no name, or the point is out of range")
        if key in self.names():
            raise Twice("the name is known")
        if self._order.size() >= MAX_POINTS:
            raise Full("at most 8 points are known")
        self._order.put(point_key(key, x, y), f"{x},{y}")

    def drop(self, key):
        """Forget the point of a name."""
        x, y = self.point_of(key)
        self._order.drop(point_key(key, x, y))

    def point_of(self, key):
        """Return the x and y of a name."""
        for name, x, y in self._rows():
            if name == key:
                return x, y
        raise Missing("the name is not known")

    def names(self):
        """Return the known names, ascending."""
        return sorted([row[0] for row in self._rows()])

    def inside(self, x0, y0, x1, y1):
        """Return the names of the points between two corners, ascending."""
        return sorted([name for name, x, y in self._rows() if x0 <= x <= x1 and y0 <= y <= y1])

    def nearest(self, x, y, many):
        """Return the names of so many points, the nearest first."""
        rows = sorted([((px - x) ** 2 + (py - y) ** 2, name) for name, px, py in self._rows()])
        return [name for _, name in rows[:max(0, many)]]

    def image(self):
        """Return the image."""
        return self._order.image()

    def _rows(self):
        """Return the names with their x and y, in the order of the codes."""
        return [read_row(key, value) for key, value in self._order.entries()]


def point_key(name, x, y):
    """Return the key of a point in the order."""
    return f"{digits(code(x, y), CODE_WIDTH)}.{name}"


def read_row(key, value):
    """Return the name, the x and the y that an entry of the order shows."""
    x, _, y = value.partition(",")
    return key.partition(".")[2], number_of(x), number_of(y)


def load_points(seed, image):
    """Return the points of the seed whose image the text is."""
    points = Points(seed)
    try:
        for key, value in load_order(seed, image).entries():
            name, x, y = read_row(key, value)
            points.put(name, x, y)
    except (NotAllowed, Twice, Full):
        raise BadForm("the image has a point that is not allowed") from None
    # Only the image itself tells that each code is right.
    if points.image() != image:
        raise BadForm("the text is not the image of points of this seed")
    return points
