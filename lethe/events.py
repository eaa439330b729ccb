"""Events, and their texts (points 10.2 and 10.12)."""

from lethe.errors import BadForm
from lethe.packing import number_of

# The kinds of the words behind the first one. A line stands last and has all that is left.
EVENT_FORMS = {
    "say": ("session", "line"),
    "ask": ("twin",),
    "deliver": ("index",),
    "lose": ("index",),
    "double": ("index",),
    "backup": ("vault", "name"),
    "discard": ("vault", "name"),
    "tend": ("vault",),
    "away": ("vault",),
    "back": ("vault",),
    "power": ("place", "writes", "torn"),
    "restart": ("place",),
}
NUMBERS = ("index", "writes", "torn")
# Power without an end, the only number with a sign.
ENDLESS = "-1"


def read_event(line):
    """Return the event whose text the line is."""
    command = line.partition(" ")[0]
    if command not in EVENT_FORMS:
        raise BadForm("there is no such event")
    form = EVENT_FORMS[command]
    parts = line.split(" ", len(form))
    if len(parts) != 1 + len(form):
        raise BadForm("a word of the event is missing")
    return tuple([command] + [read_part(kind, part) for kind, part in zip(form, parts[1:])])


def read_part(kind, part):
    """Return the value of a part of the text of an event."""
    if kind == "line":
        return part
    if kind == "writes" and part == ENDLESS:
        return -1
    if kind in NUMBERS:
        return number_of(part)
    if part == "" or " " in part:
        raise BadForm("a word is empty, or there is one word too many")
    return part


def event_text(event):
    """Return the text of an event."""
    return " ".join([str(part) for part in event])
