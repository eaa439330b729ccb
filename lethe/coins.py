"""Coins: numbers that look random and depend on a seed, a tag and a text (point 1.5)."""

HOME = 1
RANK = 2
HEIGHT = 3
SEAL = 4
RECEIPT = 5

P = 2147483647


def coin(seed, tag, text):
    """Return the coin of a text, from 0 to P - 1."""
    h = (seed * 48271 + tag * 69621 + 1) % P
    for c in text:
        h = (h * 16807 + ord(c) + 1) % P
    return (h * 48271 + len(text)) % P
