"""The lines of a hall (points 5.5, 6.3, 6.4 and 6.18)."""

from lethe.lines import is_change_line, line_speaks_of, read_line, read_number
from lethe.words import is_name

MAX_HALL_LINE = 80

# The kinds of the words behind the command. Keys and names are names; a line speaks of its keys, not of its names.
# A store line stands last and has all further words.
HALL_FORMS = {
    "do": ("line",),
    "begin": (),
    "commit": (),
    "abort": (),
    "leave": (),
    "snap": ("name",),
    "unsnap": ("name",),
    "at": ("name", "line"),
    "pin": ("name", "line"),
    "unpin": ("name",),
    "pinned": ("name",),
    "link": ("key", "kind", "key"),
    "unlink": ("key", "kind", "key"),
    "out": ("key",),
    "way": ("key", "key"),
    "log": (),
    "stats": (),
    "erase": ("key",),
}
# Lines that a house adds to those of its hall.
HOUSE_FORMS = {"forget": ("key",), "status": ("key",)}

LEAST_KIND = 0
MOST_KIND = 3

DONE = ("new", "changed", "gone", "ok")


def read_hall_line(line):
    """Return the command and what follows it, or None if the line is bad."""
    command = command_of(line)
    if len(line) > MAX_HALL_LINE or command not in HALL_FORMS:
        return None
    return read_form(HALL_FORMS[command], line)


def command_of(line):
    """Return what stands in front of the first space."""
    return line.partition(" ")[0]


def read_form(form, line):
    """Return the command and the values of the words behind it, or None if they are not of the form."""
    # Names and numbers have no spaces, so what is left behind them is the store line, if there is one.
    parts = line.split(" ", len(form))
    # A form without words does not split the line at all.
    if len(parts) != 1 + len(form) or parts[0] != command_of(line):
        return None
    values = [read_part(kind, part) for kind, part in zip(form, parts[1:])]
    return None if None in values else tuple([parts[0]] + values)


def read_part(kind, part):
    """Return the value of a part of a line, or None if it is not of the kind."""
    if kind == "kind":
        return read_number(part, LEAST_KIND, MOST_KIND)
    if kind == "line":
        return None if read_line(part) is None else part
    return part if is_name(part) else None


def speaks(line, key):
    """Tell whether the text is a line of a hall or a house that speaks of the key."""
    command = command_of(line)
    if command in HOUSE_FORMS:
        return part_speaks_of(HOUSE_FORMS[command], read_form(HOUSE_FORMS[command], line), key)
    if command in HALL_FORMS:
        return part_speaks_of(HALL_FORMS[command], read_hall_line(line), key)
    return False


def part_speaks_of(form, parsed, key):
    """Tell whether a line of the form, which may be bad, has a part that speaks of the key."""
    if parsed is None:
        return False
    keys = [part for kind, part in zip(form, parsed[1:]) if kind == "key"]
    lines = [part for kind, part in zip(form, parsed[1:]) if kind == "line"]
    return key in keys or any([line_speaks_of(line, key) for line in lines])


def is_done(line, answered):
    """Tell whether a store line is a change that a store has done, by the store's answer."""
    if not is_change_line(line):
        return False
    return answered in DONE or (answered == "due" and command_of(line) == "drop")
