"""A disk, and commits that set and remove several of its files in one step (points 3.7 and 3.8)."""

from lethe.blocks import BLANK, Medium
from lethe.errors import Down, Missing
from lethe.pieces import check_cells, check_file, rest_blocks

HEADER = 0
# The header while the entries in the journal are to be made.
MARKED = " " * 63 + "1"
# The journal entry of a cell that becomes blank, as a blank entry would be none.
FREED = "f" + " " * 63


class Disk:
    """Files on a medium that is at rest with them between commits."""

    def __init__(self, seed, cells):
        check_cells(cells)
        self._seed = seed
        self._cells = cells
        self._medium = Medium(block_count(cells))
        self._files = {}
        self._lost = False

    def medium(self):
        """Return the medium, also of a disk that is lost."""
        return self._medium

    def files(self):
        """Return the data of all files by their names."""
        self._check_not_lost()
        return dict(self._files)

    def data_of(self, name):
        """Return the data of a file."""
        self._check_not_lost()
        if name not in self._files:
            raise Missing("there is no such file")
        return self._files[name]

    def commit(self, changes):
        """Set and remove files; return the number of changed cells."""
        self._check_not_lost()
        files = changed_files(self._files, changes)
        old = rest_blocks(self._seed, self._cells, self._files)
        new = rest_blocks(self._seed, self._cells, files)
        changed = [cell for cell in range(self._cells) if old[1 + cell] != new[1 + cell]]
        if changed:
            self._write([(cell, new[1 + cell]) for cell in changed])
        self._files = files
        return len(changed)

    def _check_not_lost(self):
        if self._lost:
            raise Down("the disk was lost when the power failed")

    def _write(self, rows):
        try:
            for index, block in commit_writes(self._cells, rows):
                self._medium.write(index, block)
        except Down:
            self._lost = True
            raise


def block_count(cells):
    """Return the number of blocks of a disk: the header, the cells and the journal."""
    return 1 + 2 * cells


def changed_files(files, changes):
    """Return the files after a commit, without a look at the room for them."""
    result = dict(files)
    for name in changes:
        data = changes[name]
        check_file(name, "" if data is None else data)
        if data is not None:
            result[name] = data
        elif name in result:
            del result[name]
    return result


def changes_between(old, new):
    """Return the changes after which a disk with the old files has the new ones alone; none if they are the same."""
    changes = {name: None for name in old if name not in new}
    changes.update({name: new[name] for name in new if name not in old or old[name] != new[name]})
    return changes


def commit_writes(cells, rows):
    """Return the writes of a commit, in order; the rows are the changed cells and their new blocks."""
    entries = [(1 + cells + cell, FREED if block == BLANK else block) for cell, block in rows]
    placed = [(1 + cell, block) for cell, block in rows]
    cleared = [(index, BLANK) for index, _ in entries]
    return entries + [(HEADER, MARKED)] + placed + [(HEADER, BLANK)] + cleared


def disk_on(seed, cells, medium, files):
    """Return the disk on a medium that is at rest with the files."""
    disk = Disk(seed, cells)
    disk._medium = medium
    disk._files = dict(files)
    return disk
