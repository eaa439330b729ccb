"""Vaults: places that keep generations of lasting files (points 9.3 to 9.6)."""

from lethe.cut import cut
from lethe.drives import Drive
from lethe.errors import Missing
from lethe.pieces import VAULT_CELLS
from lethe.words import is_name

MAX_GENERATIONS = 2

MAX_GENERATION_NAME = 2
# Stands between the name of a generation and that of a file; the first has none.
MARK = "-"


class Vault:
    """A disk with the files of generations."""

    def __init__(self, seed):
        self._seed = seed
        self._drive = Drive(seed, VAULT_CELLS)

    def keep(self, name, files):
        """Add a generation."""
        if not self.is_up():
            return "down"
        if not is_name(name) or len(name) > MAX_GENERATION_NAME:
            return "bad"
        kept = self._kept()
        if name in kept:
            return "twice"
        if len(kept) >= MAX_GENERATIONS:
            return "full"
        kept[name] = files
        return self._save(kept)

    def discard(self, name):
        """Remove a generation."""
        if not self.is_up():
            return "down"
        kept = self._kept()
        if name not in kept:
            return "none"
        del kept[name]
        return self._save(kept)

    def cut_keys(self, keys):
        """Cut keys out of all generations."""
        if not self.is_up():
            return "down"
        kept = self._kept()
        return self._save({name: self._without(kept[name], keys) for name in kept})

    def restart(self):
        """Mount the disk; tell whether a commit was lost, and whether it was made."""
        return self._drive.restart()

    def supply(self, writes, torn):
        """Set the power of the disk."""
        self._drive.medium().supply(writes, torn)

    def is_up(self):
        """Tell whether the vault is up."""
        return self._drive.is_up()

    def blocks(self):
        """Return all blocks of the disk."""
        return self._drive.medium().blocks()

    def generations(self):
        """Return the names of the generations, ascending."""
        return sorted(self._kept())

    def files_of(self, name):
        """Return the files of a generation by their own names."""
        kept = self._kept()
        if name not in kept:
            raise Missing("there is no generation of this name")
        return kept[name]

    def _kept(self):
        """Return the files of each generation."""
        files = self._drive.files()
        kept = {}
        for disk_name in sorted(files):
            name, _, own_name = disk_name.partition(MARK)
            own_files = kept.setdefault(name, {})
            own_files[own_name] = files[disk_name]
        return kept

    def _without(self, files, keys):
        """Return the files of a generation without the keys."""
        left = files
        for key in keys:
            left = cut(self._seed, left, key)
        return left

    def _save(self, kept):
        """Let the disk have these generations alone; answer how that went."""
        files = {}
        for name in kept:
            files.update({name + MARK + own_name: kept[name][own_name] for own_name in kept[name]})
        return "ok" if self._drive.replace_files(files) else "lost"
