"""Plain calculations for the tests of stores and halls, written from the document alone."""

import copy
import re
import warnings

from tests.plain import plain_coin, plain_pack, plain_tree_image
from tests.test_index import plain_image, plain_words

WORD = "[A-Za-z0-9]+"


class Part:
    """A part of a question; Python's own signs have the order of the question's ones."""

    def __init__(self, *tree):
        self.tree = tree

    def __invert__(self):
        return Part("not", self.tree)

    def __and__(self, other):
        return Part("both", self.tree, other.tree)

    def __or__(self, other):
        return Part("either", self.tree, other.tree)


def shown_part(found):
    """Return the Python expression for a word, the beginning of a word or a row."""
    cut = [word.lower()[:6] for word in re.findall(WORD, found.group())]
    kind = "begin" if found.group().endswith("*") else "word" if len(cut) == 1 else "row"
    return " P(" + ", ".join(repr(word) for word in [kind] + cut) + ") "


def most_around(question):
    """Return how many parentheses and signs ! stand around a part at most."""
    opened, signs, most = [], 0, 0
    for token in re.findall(WORD + "|[!()]", question):
        if token == "!":
            signs += 1
        elif token == "(":
            opened.append(signs + 1)
            signs = 0
        elif token == ")":
            opened = opened[:-1]
        else:
            most = max(most, sum(opened) + signs)
            signs = 0
    return most


def plain_question(question):
    """Return the nested tuples of a question, or None, by letting Python read it."""
    if not re.fullmatch("[A-Za-z0-9 |&!()*+]{1,40}", question) or most_around(question) > 8:
        return None
    row = rf"{WORD} *\*|{WORD}(?: *\+ *{WORD})*"
    written = re.sub(row, shown_part, question.replace("!", "~")).strip()
    try:
        with warnings.catch_warnings():
            warnings.simplefilter("ignore", SyntaxWarning)
            part = eval(written, {"P": Part})
    except (SyntaxError, TypeError, AttributeError):
        return None
    return part.tree if isinstance(part, Part) else None


def answers(tree, found):
    """Tell whether a list of words answers a question, by a walk over the words."""
    kind = tree[0]
    if kind == "word":
        return any(word == tree[1] for word in found)
    if kind == "begin":
        return any(word[:len(tree[1])] == tree[1] for word in found)
    if kind == "row":
        row = list(tree[1:])
        return any(found[k:k + len(row)] == row for k in range(len(found)))
    if kind == "not":
        return not answers(tree[1], found)
    sides = [answers(side, found) for side in tree[1:]]
    return all(sides) if kind == "both" else any(sides)


def plain_code(x, y):
    """Return the code of a point from the texts of its binary digits."""
    pairs = zip(f"{y:07b}", f"{x:07b}")
    return int("".join(b + a for b, a in pairs), 2)


def plain_points_image(seed, points):
    """Return the image of a dict of points."""
    rows = {f"{plain_code(x, y):05d}.{name}": f"{x},{y}" for name, (x, y) in points.items()}
    return plain_tree_image(seed, rows)


PLACE = "(0|[1-9][0-9]?)"
KINDS = {"K": "([a-z0-9]{1,4})", "X": PLACE, "L": "([0-3])", "N": "([1-9][0-9]?)", "R": "(0|[1-9][0-9]{0,9})",
         "T": '"([^"%]{0,16})"', "Q": '"([^"]*)"'}
FORMS = {"put": "KXXLT", "drop": "K", "hold": "KK", "free": "KK", "get": "K", "count": "", "rank": "K", "span": "KK",
         "ask": "Q", "in": "XXXX", "near": "XXN", "view": "", "receipt": "K", "check": "KR"}
SPEAKING = ["put", "drop", "hold", "free", "get", "rank", "receipt", "check"]


def plain_line(line):
    """Return the tuple of a line of a store, or None, by a pattern for each form."""
    for word, kinds in FORMS.items():
        found = re.fullmatch(" ".join([word] + [KINDS[kind] for kind in kinds]), line)
        if found and len(line) <= 60:
            values = [int(text) if kind in "XLNR" else text for kind, text in zip(kinds, found.groups())]
            if kinds == "Q" and plain_question(values[0]) is None or kinds == "KR" and values[1] > 2147483646:
                return None
            return (word, *values)
    return None


def plain_spoken(line):
    """Return the names that a line of a store speaks of, without duplicates."""
    parsed = plain_line(line)
    if parsed is None:
        return []
    if parsed[0] == "span":
        return list(dict.fromkeys(parsed[1:]))
    return [parsed[1]] if parsed[0] in SPEAKING else []


def plain_done(line, answer):
    """Tell whether a line is a change that was done."""
    parsed = plain_line(line)
    if parsed is None or parsed[0] not in ("put", "drop", "hold", "free"):
        return False
    return answer in ("new", "changed", "gone", "ok") or (parsed[0], answer) == ("drop", "due")


class PlainStore:
    """A dict of records, each a dict, that runs lines."""

    def __init__(self, seed):
        self.seed = seed
        self.records = {}

    def copied(self):
        return copy.deepcopy(self)

    def run(self, line):
        parsed = plain_line(line)
        if parsed is None:
            return "bad"
        return getattr(self, "run_" + parsed[0])(*parsed[1:])

    def keys_where(self, holds):
        return " ".join(key for key in sorted(self.records) if holds(key, self.records[key])) or "-"

    def run_put(self, key, x, y, label, text):
        record = self.records.get(key)
        if record is None and len(self.records) == 8:
            return "full"
        if record is None:
            self.records[key] = {"x": x, "y": y, "label": label, "text": text, "holders": [], "due": False}
            return "new"
        if record["due"]:
            return "due"
        record.update(x=x, y=y, label=label, text=text)
        return "changed"

    def run_drop(self, key):
        if key not in self.records:
            return "none"
        if self.records[key]["holders"]:
            self.records[key]["due"] = True
            return "due"
        del self.records[key]
        return "gone"

    def run_hold(self, key, holder):
        if key not in self.records:
            return "none"
        holders = self.records[key]["holders"]
        if holder in holders:
            return "held"
        if len(holders) == 2:
            return "full"
        holders.append(holder)
        return "ok"

    def run_free(self, key, holder):
        if key not in self.records:
            return "none"
        record = self.records[key]
        if holder not in record["holders"]:
            return "free"
        record["holders"].remove(holder)
        if record["due"] and not record["holders"]:
            del self.records[key]
            return "gone"
        return "ok"

    def erase(self, key):
        return "none" if self.records.pop(key, None) is None else "gone"

    def run_get(self, key):
        if key not in self.records:
            return "none"
        record = self.records[key]
        words = [str(record["x"]), str(record["y"]), str(record["label"]), '"' + record["text"] + '"']
        if record["holders"]:
            words += ["held", str(len(record["holders"]))]
        return " ".join(words + ["due"] * record["due"])

    def run_count(self):
        return str(len(self.records))

    def run_rank(self, key):
        return str(sum(other < key for other in self.records))

    def run_span(self, low, high):
        return self.keys_where(lambda key, record: low <= key < high)

    def run_ask(self, question):
        tree = plain_question(question)
        return self.keys_where(lambda key, record: answers(tree, plain_words(record["text"])))

    def run_in(self, x0, y0, x1, y1):
        return self.keys_where(lambda key, record: x0 <= record["x"] <= x1 and y0 <= record["y"] <= y1)

    def run_near(self, x, y, many):
        def distance(key):
            return (self.records[key]["x"] - x) ** 2 + (self.records[key]["y"] - y) ** 2
        return " ".join(sorted(sorted(self.records), key=distance)[:many]) or "-"

    def run_view(self):
        rows = []
        for label in range(4):
            found = [record for record in self.records.values() if record["label"] == label]
            if found:
                x, y = sum(record["x"] for record in found), sum(record["y"] for record in found)
                rows.append(f"{label} {len(found)} {x} {y}")
        return "; ".join(rows) or "-"

    def run_receipt(self, key):
        return str(plain_coin(self.seed, 5, key))

    def run_check(self, key, receipt):
        if str(receipt) != self.run_receipt(key):
            return "false"
        return "there" if key in self.records else "gone"

    def map_image(self):
        return plain_tree_image(self.seed, {key: plain_value(record) for key, record in self.records.items()})

    def index_image(self):
        return plain_image(self.seed, {key: record["text"] for key, record in self.records.items()})

    def points_image(self):
        return plain_points_image(self.seed, {key: (record["x"], record["y"]) for key, record in self.records.items()})

    def images(self):
        return [self.map_image(), self.index_image(), self.points_image()]


def plain_value(record):
    """Return the value of a record in the map of a store."""
    numbers = [str(record["x"]), str(record["y"]), str(record["label"]), str(int(record["due"]))]
    return plain_pack(numbers + [record["text"]] + sorted(record["holders"]))


def random_change(choice, keys, holders=("me", "you", "us")):
    """Return a line that may change a store."""
    key = choice.choice(keys)
    word = choice.choice(["put", "put", "put", "drop", "hold", "hold", "free", "free"])
    if word == "put":
        text = " ".join(choice.choices(["red", "Fox", "it's", "forgetful", "2", "", "-"], k=choice.randrange(4)))
        return f'put {key} {choice.randrange(100)} {choice.randrange(100)} {choice.randrange(4)} "{text[:16]}"'
    if word == "drop":
        return f"drop {key}"
    return f"{word} {key} {choice.choice(holders)}"


def random_question(choice, keys):
    """Return a line that asks a store."""
    key, other = choice.choice(keys), choice.choice(keys)
    x0, y0, x1, y1 = (choice.randrange(100) for _ in range(4))
    asked = choice.choice(["red", "!red", "fo*", "red+fox", "forgetfulness | 2", "!(it & s)", "red & !2", "a*|it+s"])
    return choice.choice([f"get {key}", "count", f"rank {key}", f"span {key} {other}", f'ask "{asked}"',
                          f"in {x0 // 2} {y0 // 2} {50 + x1 // 2} {y1}", f"near {x0} {y0} {1 + x1 // 10}", "view",
                          f"receipt {key}", f"check {key} {choice.randrange(2 ** 31 - 1)}"])
