"""Plain calculations for the tests of halls, written from the document alone."""

import re

from tests.plain import plain_pack
from tests.plain_store import PlainStore, plain_done, plain_line, plain_spoken

NAME = "([a-z0-9]{1,4})"
KINDS = {"N": NAME, "K": NAME, "L": "([0-3])", "S": "(.*)"}
FORMS = {"do": "S", "begin": "", "commit": "", "abort": "", "leave": "", "snap": "N", "unsnap": "N", "at": "NS",
         "pin": "NS", "unpin": "N", "pinned": "N", "link": "KLK", "unlink": "KLK", "out": "K", "way": "KK", "log": "",
         "stats": "", "erase": "K"}
HOUSE_FORMS = {"forget": "K", "status": "K"}


def read_by(forms, line):
    """Return the kinds and the words behind the command of a line, or None."""
    for command, kinds in forms.items():
        found = re.fullmatch(" ".join([command] + [KINDS[kind] for kind in kinds]), line)
        if found and ("S" not in kinds or plain_line(found.groups()[-1]) is not None):
            return command, kinds, found.groups()
    return None


def plain_hall_line(line):
    """Return the tuple of a line of a hall, or None, by a pattern for each form."""
    found = read_by(FORMS, line)
    if found is None or len(line) > 80:
        return None
    command, kinds, words = found
    return (command, *[int(word) if kind == "L" else word for kind, word in zip(kinds, words)])


def plain_hall_spoken(line):
    """Return the names that a line of a hall or a house speaks of."""
    found = read_by({**FORMS, **HOUSE_FORMS}, line)
    if found is None:
        return []
    _, kinds, words = found
    names = []
    for kind, word in zip(kinds, words):
        names += [word] if kind == "K" else plain_spoken(word) if kind == "S" else []
    return names


class PlainTransaction:
    """An own store, a base, and the noted lines with their answers."""

    def __init__(self, store):
        self.own = store.copied()
        self.base = store.copied()
        self.noted = []

    def run(self, line):
        if plain_line(line)[0] in ("put", "drop", "hold", "free") and len(self.noted) == 8:
            return "full"
        answered = self.own.run(line)
        if plain_done(line, answered):
            self.noted.append((line, answered))
        return answered

    def images(self):
        return [self.base.map_image(), self.own.map_image(), plain_pack([text for row in self.noted for text in row])]

    def conflicts(self, store):
        keys = [line.split(" ")[1] for line, _ in self.noted]
        if any(shown(self.base, key) != shown(store, key) for key in keys):
            return True
        trial = store.copied()
        return any(trial.run(line) != answered for line, answered in self.noted)


def shown(store, key):
    """Return a record in such a form that equal records have equal ones, or None."""
    record = store.records.get(key)
    return record and {**record, "holders": sorted(record["holders"])}


class PlainParts:
    """The parts of a hall as plain lists and dicts."""

    def __init__(self, seed):
        self.store = PlainStore(seed)
        self.edges = []
        self.log = []
        self.snaps = {}
        self.pins = {}
        self.transactions = {}

    def stores_that_hold(self):
        """Return the stores whose holders keep a record from being erased."""
        return [self.store] + list(self.snaps.values()) + [one.own for one in self.transactions.values()]

    def erase(self, key):
        if any(store.records[key]["holders"] for store in self.stores_that_hold() if key in store.records):
            return "held"
        for store in self.stores_that_hold() + [one.base for one in self.transactions.values()]:
            store.erase(key)
        self.edges = [row for row in self.edges if row[0] != key and row[2] != key]
        self.log = [line for line in self.log if key not in plain_spoken(line)]
        self.pins = {name: line for name, line in self.pins.items() if key not in plain_spoken(line)}
        for one in self.transactions.values():
            one.noted = [row for row in one.noted if key not in plain_spoken(row[0])]
        return "erased"

    def lasting(self):
        """Return the lasting files, by a look at what there is."""
        files = {"map": self.store.map_image()}
        if self.store.records:
            files.update(words=self.store.index_image(), points=self.store.points_image())
        if self.edges:
            files["edges"] = plain_pack([str(part) for row in sorted(self.edges) for part in row])
        if self.log:
            files["log"] = plain_pack(self.log)
        if self.snaps:
            files["snaps"] = plain_pack([text for name in sorted(self.snaps)
                                         for text in (name, self.snaps[name].map_image())])
        if self.pins:
            files["pins"] = plain_pack([text for name in sorted(self.pins)
                                        for text in (name, self.pins[name], self.store.run(self.pins[name]))])
        return files

    def transaction_images(self):
        return {name: one.images() for name, one in self.transactions.items()}
