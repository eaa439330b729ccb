"""The lines of a store (points 5.5 to 5.7)."""

from lethe.errors import BadForm
from lethe.question import parse
from lethe.records import is_record_text
from lethe.words import is_name

MAX_LINE = 60

# The kinds of the words behind the first one. Keys and names are names; a line speaks of its keys alone.
FORMS = {
    "put": ("key", "place", "place", "label", "text"),
    "drop": ("key",),
    "hold": ("key", "name"),
    "free": ("key", "name"),
    "get": ("key",),
    "count": (),
    "rank": ("key",),
    "span": ("key", "key"),
    "ask": ("question",),
    "in": ("place", "place", "place", "place"),
    "near": ("place", "place", "many"),
    "view": (),
    "receipt": ("key",),
    "check": ("key", "receipt"),
}
RANGES = {"place": (0, 99), "label": (0, 3), "many": (1, 99), "receipt": (0, 2147483646)}
QUOTED = ("text", "question")
CHANGES = ("put", "drop", "hold", "free")


def split_line(line):
    """Return the words of a line as tuples of being quoted and the word, or None."""
    if line == "":
        return []
    found = []
    at = 0
    # A word begins at the beginning and behind each space between words, also at the end of a line that ends so.
    while at <= len(line):
        end = word_end(line, at)
        if end is None:
            return None
        found.append(read_quotes(line[at:end]))
        at = end + 1
    return found


def word_end(line, at):
    """Return the index behind the word that begins at an index, or None if there is none."""
    if line.startswith('"', at):
        # Without a second quotation mark the index is 0, which is never behind the first one.
        end = line.find('"', at + 1) + 1
    else:
        end = plain_end(line, at)
    if end <= at or line[end:end + 1] not in ("", " "):
        return None
    return end


def plain_end(line, at):
    """Return the index of the first space or quotation mark from an index on, or that of the end."""
    end = at
    while end < len(line) and line[end] not in (" ", '"'):
        end += 1
    return end


def read_quotes(word):
    """Return whether a word is quoted, and the word without its quotation marks."""
    if word.startswith('"'):
        return True, word[1:-1]
    return False, word


def read_number(text, least, most):
    """Return the number that a text writes, or None if it writes none in the range."""
    # The length goes first, as Python refuses to read very long numbers.
    if len(text) > len(str(most)) or not text.isascii() or not text.isdigit():
        return None
    if text[0] == "0" and text != "0":
        return None
    number = int(text)
    return number if least <= number <= most else None


def read_line(line):
    """Return the first word and the values of the others, or None if the line does not belong to the language."""
    found = split_line(line)
    if len(line) > MAX_LINE or not found:
        return None
    quoted, command = found[0]
    if quoted or command not in FORMS or len(found) != 1 + len(FORMS[command]):
        return None
    values = [read_word(kind, word[0], word[1]) for kind, word in zip(FORMS[command], found[1:])]
    return None if None in values else tuple([command] + values)


def read_word(kind, quoted, text):
    """Return the value of a word, or None if it is not of the kind."""
    if quoted != (kind in QUOTED):
        return None
    if kind in RANGES:
        least, most = RANGES[kind]
        return read_number(text, least, most)
    return text if is_of_kind(kind, text) else None


def is_of_kind(kind, text):
    """Tell whether a word that is no number is of the kind."""
    if kind == "text":
        return is_record_text(text)
    if kind == "question":
        return is_question(text)
    return is_name(text)


def is_question(text):
    """Tell whether the text is an allowed question about words."""
    try:
        parse(text)
    except BadForm:
        return False
    return True


def is_change(parsed):
    """Tell whether a parsed line may change a store."""
    return parsed[0] in CHANGES


def spoken_of(parsed):
    """Return the names that a parsed line speaks of, in the order of the line."""
    names = []
    for kind, value in zip(FORMS[parsed[0]], parsed[1:]):
        if kind == "key" and value not in names:
            names.append(value)
    return names


def line_text(parsed):
    """Return the line that is read as this tuple."""
    rest = [word_text(kind, value) for kind, value in zip(FORMS[parsed[0]], parsed[1:])]
    return " ".join([parsed[0]] + rest)


def word_text(kind, value):
    """Return the word of a line that is read as this value."""
    return f'"{value}"' if kind in QUOTED else str(value)


def is_change_line(line):
    """Tell whether the text is a line that may change a store."""
    parsed = read_line(line)
    return parsed is not None and is_change(parsed)


def is_question_line(line):
    """Tell whether the text is a line that changes nothing in a store."""
    parsed = read_line(line)
    return parsed is not None and not is_change(parsed)


def line_speaks_of(line, key):
    """Tell whether the text is a line of a store that speaks of the key."""
    parsed = read_line(line)
    return parsed is not None and key in spoken_of(parsed)
