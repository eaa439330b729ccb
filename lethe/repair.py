"""Repair of a medium after the power failed (points 3.9 to 3.11)."""

from lethe.blocks import BLANK
from lethe.disk import FREED, HEADER, block_count, disk_on
from lethe.errors import NotAllowed
from lethe.pieces import check_cells, read_files


def repair(cells, medium):
    """Bring a medium to rest; return the number of writes."""
    if medium.size() != block_count(cells):
        raise NotAllowed("this is not the medium of a disk with so many cells")
    writes_before = medium.writes()
    noted = [cell for cell in range(cells) if medium.read(1 + cells + cell) != BLANK]
    if medium.read(HEADER)[-1] == "1":
        for cell in noted:
            medium.write(1 + cell, entry_cell(medium.read(1 + cells + cell)))
    if medium.read(HEADER) != BLANK:
        medium.write(HEADER, BLANK)
    for cell in noted:
        medium.write(1 + cells + cell, BLANK)
    return medium.writes() - writes_before


def entry_cell(entry):
    """Return the block of a cell whose journal entry this is."""
    return BLANK if entry == FREED else entry


def mount(seed, cells, medium):
    """Repair a medium; return the disk on it."""
    check_cells(cells)
    repair(cells, medium)
    return disk_on(seed, cells, medium, read_files(seed, cells, medium.blocks()))
