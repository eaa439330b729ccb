"""What home sends when a letter arrives (point 8.3)."""

from lethe.letters import part_letters, read_letter


def answer(letter, moment, files):
    """Return the letters that home sends when a letter arrives."""
    parsed = read_letter(letter)
    if parsed[0] != "ask":
        return []
    return part_letters(parsed[1], parsed[2], moment, files)
