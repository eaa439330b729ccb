"""Stores: records with an index of their words and their points (points 5.2 to 5.4, 5.6 and 5.8)."""

from lethe.coins import RECEIPT, coin
from lethe.errors import BadForm, NotAllowed
from lethe.index import Index
from lethe.lines import read_line
from lethe.order import Order, load_order
from lethe.points import Points
from lethe.question import answer
from lethe.records import MAX_HOLDERS, MAX_RECORDS, Record, record_from_value, record_value
from lethe.words import is_name


class Store:
    """Records under keys, of which nothing is kept when they have gone."""

    def __init__(self, seed):
        self._seed = seed
        self._map = Order(seed)
        self._index = Index(seed)
        self._points = Points(seed)

    def put(self, key, x, y, label, text):
        """Add a record, or give it another point, label and text."""
        check_names([key])
        record = Record(x, y, label, text, [], False)
        if not self.has(key):
            if self.size() >= MAX_RECORDS:
                return "full"
            self._keep(key, record)
            return "new"
        old = self.record_of(key)
        if old.due:
            return "due"
        self._keep(key, Record(x, y, label, text, old.holders, False))
        return "changed"

    def drop(self, key):
        """Remove a record, as soon as nobody holds it."""
        check_names([key])
        if not self.has(key):
            return "none"
        record = self.record_of(key)
        if not record.holders:
            self._remove(key)
            return "gone"
        self._keep(key, held_record(record, record.holders, True))
        return "due"

    def hold(self, key, holder):
        """Let a holder hold a record."""
        check_names([key, holder])
        if not self.has(key):
            return "none"
        record = self.record_of(key)
        if holder in record.holders:
            return "held"
        if len(record.holders) >= MAX_HOLDERS:
            return "full"
        self._keep(key, held_record(record, record.holders + [holder], record.due))
        return "ok"

    def free(self, key, holder):
        """Let a holder hold a record no more."""
        check_names([key, holder])
        if not self.has(key):
            return "none"
        record = self.record_of(key)
        if holder not in record.holders:
            return "free"
        left = [other for other in record.holders if other != holder]
        if record.due and not left:
            self._remove(key)
            return "gone"
        self._keep(key, held_record(record, left, record.due))
        return "ok"

    def erase(self, key):
        """Remove a record, whoever holds it."""
        check_names([key])
        if not self.has(key):
            return "none"
        self._remove(key)
        return "gone"

    def has(self, key):
        """Tell whether there is a record of the key."""
        return self._map.has(key)

    def record_of(self, key):
        """Return the record of the key."""
        return record_from_value(self._map.value_of(key))

    def size(self):
        """Return the number of records."""
        return self._map.size()

    def names(self):
        """Return the keys, ascending."""
        return [key for key, _ in self._map.entries()]

    def run(self, line):
        """Run a line and return its answer."""
        parsed = read_line(line)
        return "bad" if parsed is None else self.answer(parsed)

    def answer(self, parsed):
        """Run a line that was read, and return its answer."""
        action = ANSWERS[parsed[0]]
        return action(self, parsed)

    def map_image(self):
        """Return the image of the map."""
        return self._map.image()

    def index_image(self):
        """Return the image of the index."""
        return self._index.image()

    def points_image(self):
        """Return the image of the points."""
        return self._points.image()

    def _keep(self, key, record):
        """Let all parts have this record of the key."""
        if self.has(key):
            self._remove(key)
        self._map.put(key, record_value(record))
        self._index.put(key, record.text)
        self._points.put(key, record.x, record.y)

    def _remove(self, key):
        """Let no part have a record of the key; there is one."""
        self._map.drop(key)
        self._index.drop(key)
        self._points.drop(key)


def check_names(texts):
    """Raise an error if one of the texts is no name."""
    if not all([is_name(text) for text in texts]):
        raise NotAllowed("a key or a holder is no name")


def held_record(record, holders, due):
    """Return the record with these holders, in any order, and being due or not."""
    return Record(record.x, record.y, record.label, record.text, sorted(holders), due)


def is_held(store, key):
    """Tell whether there is a record of the key that has a holder."""
    return store.has(key) and len(store.record_of(key).holders) > 0


def erase_record(store, key):
    """Remove the record of a key, if there is one, whatever text the key is."""
    if store.has(key):
        store.erase(key)


def put_answer(store, parsed):
    """Answer `put K X Y L "T"`."""
    return store.put(parsed[1], parsed[2], parsed[3], parsed[4], parsed[5])


def drop_answer(store, parsed):
    """Answer `drop K`."""
    return store.drop(parsed[1])


def hold_answer(store, parsed):
    """Answer `hold K H`."""
    return store.hold(parsed[1], parsed[2])


def free_answer(store, parsed):
    """Answer `free K H`."""
    return store.free(parsed[1], parsed[2])


def get_answer(store, parsed):
    """Answer `get K`."""
    if not store.has(parsed[1]):
        return "none"
    record = store.record_of(parsed[1])
    held = f" held {len(record.holders)}" if record.holders else ""
    due = " due" if record.due else ""
    return f'{record.x} {record.y} {record.label} "{record.text}"{held}{due}'


def count_answer(store, parsed):
    """Answer `count`."""
    return str(store.size())


def rank_answer(store, parsed):
    """Answer `rank K`."""
    return str(store._map.rank(parsed[1]))


def span_answer(store, parsed):
    """Answer `span A B`."""
    return joined_keys([key for key, _ in store._map.span(parsed[1], parsed[2])])


def ask_answer(store, parsed):
    """Answer `ask "Q"`."""
    return joined_keys(answer(store._index, parsed[1]))


def in_answer(store, parsed):
    """Answer `in X0 Y0 X1 Y1`."""
    return joined_keys(store._points.inside(parsed[1], parsed[2], parsed[3], parsed[4]))


def near_answer(store, parsed):
    """Answer `near X Y N`."""
    return joined_keys(store._points.nearest(parsed[1], parsed[2], parsed[3]))


def view_answer(store, parsed):
    """Answer `view`."""
    records = [store.record_of(key) for key in store.names()]
    labels = sorted({record.label for record in records})
    rows = [label_row(label, [record for record in records if record.label == label]) for label in labels]
    return "; ".join(rows) if rows else "-"


def label_row(label, records):
    """Return the row of a label in a view; the records are those with this label."""
    return f"{label} {len(records)} {sum([record.x for record in records])} {sum([record.y for record in records])}"


def receipt_answer(store, parsed):
    """Answer `receipt K`."""
    return str(coin(store._seed, RECEIPT, parsed[1]))


def check_answer(store, parsed):
    """Answer `check K R`."""
    if parsed[2] != coin(store._seed, RECEIPT, parsed[1]):
        return "false"
    return "there" if store.has(parsed[1]) else "gone"


def joined_keys(keys):
    """Return an answer that consists of keys."""
    return " ".join(keys) if keys else "-"


ANSWERS = {
    "put": put_answer,
    "drop": drop_answer,
    "hold": hold_answer,
    "free": free_answer,
    "get": get_answer,
    "count": count_answer,
    "rank": rank_answer,
    "span": span_answer,
    "ask": ask_answer,
    "in": in_answer,
    "near": near_answer,
    "view": view_answer,
    "receipt": receipt_answer,
    "check": check_answer,
}


def store_of_map(seed, map_image):
    """Return the store of the seed whose map has this image."""
    entries = load_order(seed, map_image).entries()
    if len(entries) > MAX_RECORDS:
        raise BadForm("a store has at most 8 records")
    store = Store(seed)
    for key, value in entries:
        if not is_name(key):
            raise BadForm("the key of a record is no name")
        store._keep(key, record_from_value(value))
    return store


def load_store(seed, map_image, index_image, points_image):
    """Return the store of the seed whose parts have these images."""
    store = store_of_map(seed, map_image)
    if store.index_image() != index_image or store.points_image() != points_image:
        raise BadForm("the parts do not agree")
    return store
