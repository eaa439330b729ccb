"""Layouts: cells that depend only on the set of items in them (points 1.6 and 1.7)."""

from lethe.coins import HOME, RANK, coin
from lethe.errors import Full, NotAllowed

MAX_LAYOUT_CELLS = 4096


def layout(cell_count, items):
    """Return for each cell the index of the item that lies there, or -1."""
    if cell_count < 1 or cell_count > MAX_LAYOUT_CELLS:
        raise NotAllowed("a layout has 1 to 4096 cells")
    if len(items) > cell_count:
        raise Full("there are more items than cells")
    cells = [-1] * cell_count
    for _, index in sorted([(turn_of(items[k]), k) for k in range(len(items))]):
        cells[free_cell(cells, items[index][0])] = index
    return cells


def turn_of(item):
    """Return what is less for the item that is put into its cell earlier."""
    return -item[1], item[2]


def free_cell(cells, home):
    """Return the first free cell from the home on; there is one."""
    at = home % len(cells)
    while cells[at] != -1:
        at = (at + 1) % len(cells)
    return at


def coin_item(seed, key):
    """Return the item of a key whose home and rank are its coins."""
    return coin(seed, HOME, key), coin(seed, RANK, key), key
