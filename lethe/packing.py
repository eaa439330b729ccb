"""Packed texts and decimal digits (points 1.3 and 1.4)."""

from lethe.errors import BadForm, NotAllowed

MAX_DIGITS = 9
GREATEST_NUMBER = 999999999


def pack(parts):
    """Join a list of texts into one text."""
    return "".join([f"{len(part)}:{part}" for part in parts])


def unpack(text):
    """Return the list of texts that a text packs."""
    parts = []
    at = 0
    while at < len(text):
        part, at = part_at(text, at)
        parts.append(part)
    return parts


def part_at(text, at):
    """Return the packed part that begins at an index, and the index behind it."""
    colon = text.find(":", at, at + MAX_DIGITS + 1)
    if colon < 0:
        raise BadForm("a packed part has no length")
    begin = colon + 1
    end = begin + number_of(text[at:colon])
    if end > len(text):
        raise BadForm("a packed part is cut off")
    return text[begin:end], end


def digits(number, width):
    """Return the digits of a number with leading zeros."""
    if width < 1 or width > MAX_DIGITS:
        raise NotAllowed("a width is from 1 to 9")
    # The greatest number stands first, as Python refuses to write very long ones.
    if number < 0 or number > GREATEST_NUMBER or len(str(number)) > width:
        raise NotAllowed("a number does not fit its width")
    return str(number).zfill(width)


def number_of(text):
    """Return the number whose digits, without leading zeros, a text is."""
    number = digits_number(text)
    if text[0] == "0" and text != "0":
        raise BadForm("a number has leading zeros")
    return number


def digits_number(text):
    """Return the number whose digits, perhaps with leading zeros, a text is."""
    if len(text) > MAX_DIGITS or not text.isascii() or not text.isdigit():
        raise BadForm("a number has 1 to 9 digits and nothing else")
    return int(text)
