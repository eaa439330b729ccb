"""Records (points 5.1 and 5.2)."""

from lethe.errors import BadForm, NotAllowed
from lethe.packing import number_of, pack, unpack
from lethe.points import is_point
from lethe.words import is_name

MAX_RECORDS = 8
MAX_HOLDERS = 2
MAX_TEXT = 16
MAX_LABEL = 3

QUOTE = '"'
# The percent sign is in no text, and may not be written in a string of the program.
PERCENT_CODE = 37

# The parts of a value in front of the holders.
PARTS_BEFORE_HOLDERS = 5


class Record:
    """A point, a label, a text and holders; perhaps it is due."""

    def __init__(self, x, y, label, text, holders, due):
        if not is_point(x, y) or label < 0 or label > MAX_LABEL:
            raise NotAllowed("a point or a label is out of range")
        if not is_record_text(text):
            raise NotAllowed("a record may not have this text")
        if not are_holders(holders):
            raise NotAllowed("holders are at most 2 different names, in ascending order")
        if due and not holders:
            raise NotAllowed("a due record has a holder")
        self.x = x
        self.y = y
        self.label = label
        self.text = text
        self.holders = list(holders)
        self.due = due


def is_record_text(text):
    """Tell whether a record may have the text."""
    return len(text) <= MAX_TEXT and all([is_text_sign(c) for c in text])


def is_text_sign(c):
    """Tell whether a character may stand in the text of a record."""
    return " " <= c <= "~" and c != QUOTE and ord(c) != PERCENT_CODE


def are_holders(holders):
    """Tell whether a record may have these holders."""
    if len(holders) > MAX_HOLDERS or not all([is_name(holder) for holder in holders]):
        return False
    return list(holders) == sorted(set(holders))


def record_value(record):
    """Return the value of a record in the map of a store."""
    numbers = [str(record.x), str(record.y), str(record.label)]
    due = "1" if record.due else "0"
    return pack(numbers + [due, record.text] + record.holders)


def record_from_value(text):
    """Return the record with this value."""
    parts = unpack(text)
    if len(parts) < PARTS_BEFORE_HOLDERS or parts[3] not in ("0", "1"):
        raise BadForm("a part of the record is missing, or it is neither due nor not due")
    x = number_of(parts[0])
    y = number_of(parts[1])
    label = number_of(parts[2])
    try:
        return Record(x, y, label, parts[4], parts[PARTS_BEFORE_HOLDERS:], parts[3] == "1")
    except NotAllowed:
        raise BadForm("the value has a part that is not allowed") from None
