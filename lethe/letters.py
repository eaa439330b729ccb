"""Letters between a home and its twins (point 8.1)."""

from lethe.errors import BadForm, NotAllowed
from lethe.packing import number_of, pack, unpack
from lethe.pieces import check_file

TWIN_NAMES = ("t1", "t2", "t3")
MAX_EVENT = 999999999
MAX_FILES = 30

# The number of parts of each letter, by its first one.
PART_COUNTS = {"ask": 3, "part": 8, "done": 4}
# The index, the count, the name and the data in an answer without files.
NO_FILE = (0, 0, "", "")


def check_twin(twin):
    """Raise an error if the name is not that of a twin."""
    if twin not in TWIN_NAMES:
        raise NotAllowed("the name of a twin is t1, t2 or t3")


def check_event(number):
    """Raise an error if no event has the number."""
    if number < 1 or number > MAX_EVENT:
        raise NotAllowed("an event has a number from 1 to 999999999")


def ask_letter(twin, question):
    """Return the letter in which a twin asks for all files."""
    check_twin(twin)
    check_event(question)
    return pack(["ask", twin, str(question)])


def done_letter(twin, question, moment):
    """Return the letter in which a twin tells that it has written an answer."""
    check_twin(twin)
    check_event(question)
    check_event(moment)
    return pack(["done", twin, str(question), str(moment)])


def part_letters(twin, question, moment, files):
    """Return the letters of an answer, in order."""
    check_twin(twin)
    check_event(question)
    check_event(moment)
    if len(files) > MAX_FILES:
        raise NotAllowed("an answer has at most 30 files")
    for name in sorted(files):
        check_file(name, files[name])
    head = ["part", twin, str(question), str(moment)]
    return [pack(head + [str(index), str(count), name, data]) for index, count, name, data in file_rows(files)]


def file_rows(files):
    """Return the index, the count, the name and the data of each part of an answer."""
    if not files:
        return [NO_FILE]
    names = sorted(files)
    return [(k, len(names), names[k], files[names[k]]) for k in range(len(names))]


def read_letter(letter):
    """Return the parts of a letter, with integers for numbers."""
    parts = unpack(letter)
    word = parts[0] if parts else ""
    if word not in PART_COUNTS or len(parts) != PART_COUNTS[word]:
        raise BadForm("a letter has another first part, or another number of parts")
    if parts[1] not in TWIN_NAMES:
        raise BadForm("a letter has the name of no twin")
    head = parts[:2] + [read_event_number(text) for text in parts[2:4]]
    return tuple(head) + (read_file_row(parts[4:]) if word == "part" else ())


def read_event_number(text):
    """Return the number of an event that a text writes."""
    number = number_of(text)
    if number < 1:
        raise BadForm("no event has the number 0")
    return number


def read_file_row(parts):
    """Return the index, the count, the name and the data that stand at the end of a part of an answer."""
    row = (number_of(parts[0]), number_of(parts[1]), parts[2], parts[3])
    if row == NO_FILE:
        return row
    index, count, name, data = row
    if index >= count or count > MAX_FILES:
        raise BadForm("an index or a count is out of range")
    try:
        check_file(name, data)
    except NotAllowed:
        raise BadForm("a letter has a file that is not allowed") from None
    return row
