"""Plain calculations for the tests of halls, written from the document alone."""

import heapq
import re

from tests.plain import plain_pack, plain_unpack, shown_entries
from tests.plain_store import PlainStore, plain_done, plain_line, plain_spoken, random_change, random_question

NAME = "([a-z0-9]{1,4})"
KINDS = {"N": NAME, "K": NAME, "L": "([0-3])", "S": "(.*)"}
FORMS = {"do": "S", "begin": "", "commit": "", "abort": "", "leave": "", "snap": "N", "unsnap": "N", "at": "NS",
         "pin": "NS", "unpin": "N", "pinned": "N", "link": "KLK", "unlink": "KLK", "out": "K", "way": "KK", "log": "",
         "stats": "", "erase": "K"}
HOUSE_FORMS = {"forget": "K", "status": "K"}


def read_by(forms, line):
    """Return the kinds and the words behind the command of a line, or None."""
    for command, kinds in forms.items():
        found = re.fullmatch(" ".join([command] + [KINDS[kind] for kind in kinds]), line)
        if found and ("S" not in kinds or plain_line(found.groups()[-1]) is not None):
            return command, kinds, found.groups()
    return None


def plain_hall_line(line):
    """Return the tuple of a line of a hall, or None, by a pattern for each form."""
    found = read_by(FORMS, line)
    if found is None or len(line) > 80:
        return None
    command, kinds, words = found
    return (command, *[int(word) if kind == "L" else word for kind, word in zip(kinds, words)])


def plain_hall_spoken(line):
    """Return the names that a line of a hall or a house speaks of."""
    found = read_by({**FORMS, **HOUSE_FORMS}, line)
    if found is None:
        return []
    _, kinds, words = found
    names = []
    for kind, word in zip(kinds, words):
        names += [word] if kind == "K" else plain_spoken(word) if kind == "S" else []
    return names


class PlainTransaction:
    """An own store, a base, and the noted lines with their answers."""

    def __init__(self, store):
        self.own = store.copied()
        self.base = store.copied()
        self.noted = []

    def run(self, line):
        if plain_line(line)[0] in ("put", "drop", "hold", "free") and len(self.noted) == 8:
            return "full"
        answered = self.own.run(line)
        if plain_done(line, answered):
            self.noted.append((line, answered))
        return answered

    def images(self):
        return [self.base.map_image(), self.own.map_image(), plain_pack([text for row in self.noted for text in row])]

    def conflicts(self, store):
        keys = [line.split(" ")[1] for line, _ in self.noted]
        if any(shown(self.base, key) != shown(store, key) for key in keys):
            return True
        trial = store.copied()
        return any(trial.run(line) != answered for line, answered in self.noted)


def shown(store, key):
    """Return a record in such a form that equal records have equal ones, or None."""
    record = store.records.get(key)
    return record and {**record, "holders": sorted(record["holders"])}


class PlainParts:
    """The parts of a hall as plain lists and dicts."""

    def __init__(self, seed):
        self.store = PlainStore(seed)
        self.edges = []
        self.log = []
        self.snaps = {}
        self.pins = {}
        self.transactions = {}

    def stores_that_hold(self):
        """Return the stores whose holders keep a record from being erased."""
        return [self.store] + list(self.snaps.values()) + [one.own for one in self.transactions.values()]

    def erase(self, key):
        if any(store.records[key]["holders"] for store in self.stores_that_hold() if key in store.records):
            return "held"
        for store in self.stores_that_hold() + [one.base for one in self.transactions.values()]:
            store.erase(key)
        self.edges = [row for row in self.edges if row[0] != key and row[2] != key]
        self.log = [line for line in self.log if key not in plain_spoken(line)]
        self.pins = {name: line for name, line in self.pins.items() if key not in plain_spoken(line)}
        for one in self.transactions.values():
            one.noted = [row for row in one.noted if key not in plain_spoken(row[0])]
        return "erased"

    def lasting(self):
        """Return the lasting files, by a look at what there is."""
        files = {"map": self.store.map_image()}
        if self.store.records:
            files.update(words=self.store.index_image(), points=self.store.points_image())
        if self.edges:
            files["edges"] = plain_pack([str(part) for row in sorted(self.edges) for part in row])
        if self.log:
            files["log"] = plain_pack(self.log)
        if self.snaps:
            files["snaps"] = plain_pack([text for name in sorted(self.snaps)
                                         for text in (name, self.snaps[name].map_image())])
        if self.pins:
            files["pins"] = plain_pack([text for name in sorted(self.pins)
                                        for text in (name, self.pins[name], self.store.run(self.pins[name]))])
        return files

    def transaction_images(self):
        return {name: one.images() for name, one in self.transactions.items()}

    def image(self):
        parts = [text for name, data in sorted(self.lasting().items()) for text in (name, data)]
        for name, images in sorted(self.transaction_images().items()):
            parts += [name, *images]
        return plain_pack(parts)


def least_way(edges, start, end):
    """Return the least of the shortest ways, by trying ways in ascending order."""
    ways, seen = [(1, [start])], set()
    while ways:
        length, way = heapq.heappop(ways)
        if way[-1] == end:
            return way
        if way[-1] not in seen:
            seen.add(way[-1])
            for source, _, target in edges:
                if source == way[-1]:
                    heapq.heappush(ways, (length + 1, way + [target]))
    return None


class PlainHall(PlainParts):
    """A hall of plain lists and dicts that runs lines."""

    def run(self, session, line):
        """Return the answer and the effects."""
        parsed = plain_hall_line(line)
        if parsed is None or not re.fullmatch(NAME, session):
            return "bad", []
        told = getattr(self, "run_" + parsed[0])(session, *parsed[1:])
        if isinstance(told, tuple):
            return told
        lasting = {"snap": "ok", "unsnap": "ok", "pin": "ok", "unpin": "ok", "link": "new", "unlink": "ok",
                   "erase": "erased"}
        return told, [line] * (lasting.get(parsed[0]) == told)

    def run_do(self, session, line):
        if session in self.transactions:
            return self.transactions[session].run(line), []
        return self.run_alone(line)

    def run_alone(self, line):
        word, key = (line + " ").split(" ")[:2]
        if word in ("put", "drop", "hold", "free") and len(self.log) == 24:
            return "full", []
        answered = self.store.run(line)
        if not plain_done(line, answered):
            return answered, []
        self.log.append(line)
        if answered == "gone":
            self.edges = [row for row in self.edges if key not in (row[0], row[2])]
        return answered, ["do " + line]

    def run_begin(self, session):
        if session in self.transactions:
            return "twice"
        if len(self.transactions) == 3:
            return "full"
        self.transactions[session] = PlainTransaction(self.store)
        return "ok"

    def run_commit(self, session):
        if session not in self.transactions:
            return "none", []
        transaction = self.transactions[session]
        if transaction.conflicts(self.store):
            del self.transactions[session]
            return "conflict", []
        if len(self.log) + len(transaction.noted) > 24:
            return "full", []
        del self.transactions[session]
        effects = [effect for line, _ in transaction.noted for effect in self.run_alone(line)[1]]
        return f"done {len(transaction.noted)}", effects

    def run_abort(self, session):
        return "none" if self.transactions.pop(session, None) is None else "ok"

    def run_leave(self, session):
        self.transactions.pop(session, None)
        return "ok"

    def run_snap(self, session, name):
        if name in self.snaps or len(self.snaps) == 2:
            return "twice" if name in self.snaps else "full"
        self.snaps[name] = self.store.copied()
        return "ok"

    def run_unsnap(self, session, name):
        return "none" if self.snaps.pop(name, None) is None else "ok"

    def run_at(self, session, name, line):
        if plain_line(line)[0] in ("put", "drop", "hold", "free"):
            return "bad"
        return self.snaps[name].run(line) if name in self.snaps else "none"

    def run_pin(self, session, name, line):
        if plain_line(line)[0] in ("put", "drop", "hold", "free"):
            return "bad"
        if name in self.pins or len(self.pins) == 3:
            return "twice" if name in self.pins else "full"
        self.pins[name] = line
        return "ok"

    def run_unpin(self, session, name):
        return "none" if self.pins.pop(name, None) is None else "ok"

    def run_pinned(self, session, name):
        return self.store.run(self.pins[name]) if name in self.pins else "none"

    def run_link(self, session, source, kind, target):
        if source not in self.store.records or target not in self.store.records:
            return "none"
        if (source, kind, target) in self.edges or len(self.edges) == 24:
            return "twice" if (source, kind, target) in self.edges else "full"
        self.edges.append((source, kind, target))
        return "new"

    def run_unlink(self, session, source, kind, target):
        if (source, kind, target) not in self.edges:
            return "none"
        self.edges.remove((source, kind, target))
        return "ok"

    def run_out(self, session, key):
        return " ".join(f"{kind}:{target}" for source, kind, target in sorted(self.edges) if source == key) or "-"

    def run_way(self, session, start, end):
        way = least_way(self.edges, start, end) if start in self.store.records else None
        return "none" if way is None else " ".join(way)

    def run_log(self, session):
        return "; ".join(self.log) or "-"

    def run_stats(self, session):
        return " ".join(f"{word} {sum(line.startswith(word) for line in self.log)}"
                        for word in ["put", "drop", "hold", "free"])

    def run_erase(self, session, key):
        return self.erase(key)


NAMES = ["x", "y", "z", "a"]


def random_hall_line(choice, keys):
    """Return a line of a hall; about half of them are store lines."""
    key, other, name = choice.choice(keys), choice.choice(keys), choice.choice(NAMES)
    kind = min(choice.randrange(4), choice.randrange(4))
    question = random_question(choice, keys)
    if choice.randrange(2):
        return "do " + choice.choice([random_change(choice, keys)] * 4 + [question])
    return choice.choice([
        "begin", "begin", "commit", "commit", "commit", "abort", "leave", f"snap {name}", f"unsnap {name}",
        f"at {name} {question}", f"pin {name} {question}", f"pin {name} {question}", f"unpin {name}", f"pinned {name}",
        f"link {key} {kind} {other}", f"link {key} {kind} {other}", f"link {key} {kind} {other}",
        f"unlink {key} {kind} {other}", f"unlink {key} 0 {other}", f"out {key}", f"way {key} {other}", "log", "stats",
        f"erase {key}"])


def plain_hall_of(seed, files):
    """Return the plain hall of lasting files, or None, by writing the files of what they show anew."""
    hall = PlainHall(seed)
    try:
        hall.store = store_shown(seed, files["map"])
        rows = plain_unpack(files.get("edges", ""))
        hall.edges = [(rows[k], int(rows[k + 1]), rows[k + 2]) for k in range(0, len(rows), 3)]
        hall.log = plain_unpack(files.get("log", ""))
        rows = plain_unpack(files.get("snaps", ""))
        hall.snaps = {rows[k]: store_shown(seed, rows[k + 1]) for k in range(0, len(rows), 2)}
        rows = plain_unpack(files.get("pins", ""))
        hall.pins = {rows[k]: rows[k + 1] for k in range(0, len(rows), 3)}
        fits = is_fit(hall) and hall.lasting() == files
    except (KeyError, ValueError, IndexError, TypeError, AttributeError):
        return None
    return hall if fits else None


def is_fit(hall):
    """Tell whether the parts that files show are within the limits and of the right kinds."""
    names = list(hall.snaps) + list(hall.pins)
    changes = [plain_line(line)[0] in ("put", "drop", "hold", "free") for line in hall.log]
    questions = [plain_line(line)[0] not in ("put", "drop", "hold", "free") for line in hall.pins.values()]
    keys = [key for row in hall.edges for key in (row[0], row[2])]
    return (all(re.fullmatch(NAME, name) for name in names) and all(changes) and all(questions)
            and all(key in hall.store.records for key in keys) and all(0 <= row[1] <= 3 for row in hall.edges)
            and len(set(hall.edges)) == len(hall.edges) <= 24 and len(hall.log) <= 24
            and len(hall.snaps) <= 2 and len(hall.pins) <= 3)


def store_shown(seed, image):
    """Return the plain store whose map an image shows, whatever the rest of the image says."""
    store = PlainStore(seed)
    for key, value in shown_entries(image):
        x, y, label, due, text, *holders = plain_unpack(value)
        if not re.fullmatch(NAME, key) or not re.fullmatch("[01]", due) or not re.fullmatch('[^"%]{0,16}', text):
            raise ValueError(key)
        if not all(re.fullmatch("0|[1-9][0-9]?", number) for number in (x, y)) or not re.fullmatch("[0-3]", label):
            raise ValueError(value)
        if not all(re.fullmatch(NAME, holder) for holder in holders) or len(set(holders)) < len(holders):
            raise ValueError(value)
        if len(holders) > 2 or due == "1" and not holders:
            raise ValueError(value)
        store.records[key] = {"x": int(x), "y": int(y), "label": int(label), "text": text, "holders": holders,
                              "due": due == "1"}
    if len(store.records) > 8 or store.map_image() != image:
        raise ValueError(image)
    return store
