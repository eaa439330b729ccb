"""Blocks, and a medium whose power may fail in any write (points 3.1 and 3.2)."""

from lethe.errors import Down, Missing, NotAllowed

BLOCK = 64
BLANK = " " * 64

MAX_BLOCKS = 801
MAX_SUPPLY = 100000
NO_LIMIT = -1


class Medium:
    """A row of blocks."""

    def __init__(self, block_count):
        if block_count < 1 or block_count > MAX_BLOCKS:
            raise NotAllowed("a medium has 1 to 801 blocks")
        self._blocks = [BLANK] * block_count
        self._whole_writes = 0
        self._writes_left = NO_LIMIT
        self._torn = 0
        self._off = False

    def size(self):
        """Return the number of blocks."""
        return len(self._blocks)

    def writes(self):
        """Return the number of whole writes so far."""
        return self._whole_writes

    def is_down(self):
        """Tell whether the power is off."""
        return self._off

    def read(self, index):
        """Return a block."""
        self._check_index(index)
        return self._blocks[index]

    def write(self, index, block):
        """Write a block, wholly or, if the power fails in it, its first characters."""
        self._check_index(index)
        if len(block) != BLOCK:
            raise NotAllowed("a block has 64 characters")
        if self._off:
            raise Down("the power is off")
        if self._writes_left == 0:
            self._blocks[index] = block[:self._torn] + self._blocks[index][self._torn:]
            self._off = True
            raise Down("the power fails in this write")
        if self._writes_left != NO_LIMIT:
            self._writes_left -= 1
        self._blocks[index] = block
        self._whole_writes += 1

    def supply(self, writes, torn):
        """Give power for so many whole writes, or without limit."""
        if writes < NO_LIMIT or writes > MAX_SUPPLY:
            raise NotAllowed("a supply is for -1 to 100000 writes")
        if torn < 0 or torn >= BLOCK:
            raise NotAllowed("a torn write has 0 to 63 characters")
        self._writes_left = writes
        self._torn = torn
        self._off = False

    def blocks(self):
        """Return the list of all blocks."""
        return list(self._blocks)

    def _check_index(self, index):
        if index < 0 or index >= len(self._blocks):
            raise Missing("there is no such block")
