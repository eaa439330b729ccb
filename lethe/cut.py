"""Cutting a key out of lasting files (point 6.22)."""

from lethe.erase import check_erased, remove_key
from lethe.lasting import lasting_files
from lethe.revive import hall_of


def cut(seed, files, key):
    """Return the lasting files without the key."""
    check_erased(key)
    hall = hall_of(seed, files)
    remove_key(hall, key)
    return lasting_files(hall)
