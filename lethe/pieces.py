"""Files as pieces in the cells of a disk at rest (points 3.3 to 3.6 and 3.12)."""

from lethe.blocks import BLANK, BLOCK
from lethe.errors import BadForm, Full, NotAllowed
from lethe.layouts import coin_item, layout
from lethe.packing import digits, digits_number

PIECE = 40
MAX_DATA = 4000
MAX_CELLS = 400
HOME_CELLS = 192
VAULT_CELLS = 352

MAX_FILE_NAME = 12
NAME_SIGNS = "abcdefghijklmnopqrstuvwxyz0123456789-"

# The widths of the numbers in the block of a piece.
LENGTH_WIDTH = 2
NUMBER_WIDTH = 3


def check_file(name, data):
    """Raise an error if there can be no file of this name with this data."""
    if len(name) < 1 or len(name) > MAX_FILE_NAME:
        raise NotAllowed("a file name has 1 to 12 characters")
    for c in name:
        if c not in NAME_SIGNS:
            raise NotAllowed("a file name has small letters, digits and - only")
    if len(data) > MAX_DATA:
        raise NotAllowed("a file has at most 4000 characters")


def check_cells(cells):
    """Raise an error if no disk has so many cells."""
    if cells < 1 or cells > MAX_CELLS:
        raise NotAllowed("a disk has 1 to 400 cells")


def piece_blocks(name, data):
    """Return the key and the block of each piece of a file, in order."""
    check_file(name, data)
    count = max(1, (len(data) + PIECE - 1) // PIECE)
    return [piece_block(name, k, data[k * PIECE:(k + 1) * PIECE]) for k in range(count)]


def piece_block(name, number, piece):
    """Return the key and the block of one piece."""
    written = digits(number, NUMBER_WIDTH)
    head = digits(len(name), LENGTH_WIDTH) + name + written + digits(len(piece), LENGTH_WIDTH)
    return f"{name}/{written}", (head + piece).ljust(BLOCK)


def rest_blocks(seed, cells, files):
    """Return all blocks of a disk at rest with these files."""
    check_cells(cells)
    pieces = []
    for name in sorted(files):
        pieces.extend(piece_blocks(name, files[name]))
    placed = layout(cells, [coin_item(seed, key) for key, _ in pieces])
    return [BLANK] + [BLANK if k < 0 else pieces[k][1] for k in placed] + [BLANK] * cells


def read_files(seed, cells, blocks):
    """Return the files with which a disk with these blocks is at rest."""
    check_cells(cells)
    if len(blocks) != 1 + 2 * cells:
        raise BadForm("this is not the number of blocks of such a disk")
    files = joined_pieces(blocks[1:cells + 1])
    if not is_at_rest(seed, cells, files, blocks):
        raise BadForm("the disk is not at rest with any files")
    return files


def joined_pieces(cell_blocks):
    """Return the files that cells show, whatever pieces there are of them."""
    files = {}
    for name, _, piece in sorted([read_piece(block) for block in cell_blocks if block != BLANK]):
        files[name] = files.get(name, "") + piece
    return files


def read_piece(block):
    """Return the name, the number and the text of the piece that a block shows."""
    name_end = LENGTH_WIDTH + digits_number(block[:LENGTH_WIDTH])
    number_end = name_end + NUMBER_WIDTH
    piece_begin = number_end + LENGTH_WIDTH
    number = digits_number(block[name_end:number_end])
    piece_end = piece_begin + digits_number(block[number_end:piece_begin])
    return block[LENGTH_WIDTH:name_end], number, block[piece_begin:piece_end]


def is_at_rest(seed, cells, files, blocks):
    """Tell whether the blocks are those of a disk at rest with the files."""
    try:
        return rest_blocks(seed, cells, files) == blocks
    except (NotAllowed, Full):
        return False
