"""Words and names (points 4.1 and 4.2)."""

MAX_WORD = 6
MAX_NAME = 4
SIGNS = "abcdefghijklmnopqrstuvwxyz0123456789"


def is_name(text):
    """Tell whether the text is a name."""
    return 1 <= len(text) <= MAX_NAME and all([c in SIGNS for c in text])


def words(text):
    """Return the words of a text, in order."""
    runs = "".join([c if c in SIGNS else " " for c in text.lower()]).split()
    return [run[:MAX_WORD] for run in runs]
