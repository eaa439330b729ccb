"""Erasing a key in a hall (points 6.16 and 6.17)."""

from lethe.errors import NotAllowed
from lethe.store import is_held
from lethe.words import is_name


def erase(hall, key):
    """Erase a key in all parts of a hall, unless its record is held in one of them."""
    check_erased(key)
    if is_held_somewhere(hall, key):
        return "held"
    remove_key(hall, key)
    return "erased"


def check_erased(key):
    """Raise an error if there can be no record of the key."""
    if not is_name(key):
        raise NotAllowed("the key is no name")


def is_held_somewhere(hall, key):
    """Tell whether a record of the key has a holder in the store, a snapshot or a transaction."""
    if is_held(hall.store, key) or hall.snaps.held(key):
        return True
    return any([hall.transactions[session].held(key) for session in sorted(hall.transactions)])


def remove_key(hall, key):
    """Remove a key from all parts of a hall, whoever holds its record."""
    hall.store.erase(key)
    hall.edges.drop(key)
    hall.log.erase(key)
    hall.snaps.erase(key)
    hall.pins.erase(key)
    for session in sorted(hall.transactions):
        hall.transactions[session].erase(key)
