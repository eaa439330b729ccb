"""Plain calculations for the tests, written from the document alone, and a test case with a look at errors."""

import functools
import re
import sys
import unittest

from lethe import errors

P = 2147483647
SIGNS = "".join(chr(c) for c in range(32, 127) if c != 37)

# Two keys with the same coin for every seed and tag: only the keys themselves tell them apart.
EQUAL_COINS = [("tkr88", "yvuuj"), ("3ceme", "w38sk"), ("mdj20", "romob"), ("xxrvtm", "bm3bjk")]


class Case(unittest.TestCase):
    def fails(self, error, call, *args):
        """Check that a call raises an error of this very class."""
        with self.assertRaises(errors.LetheError) as caught:
            call(*args)
        if type(caught.exception) is not error:
            self.fail(f"{type(caught.exception).__name__} for {repr((call, args))[:300]}")


def plain_coin(seed, tag, text):
    start = (seed * 48271 + tag * 69621 + 1) % P
    h = functools.reduce(lambda low, c: (low * 16807 + ord(c) + 1) % P, text, start)
    return (h * 48271 + len(text)) % P


def plain_pack(parts):
    return "".join(str(len(part)) + ":" + part for part in parts)


def take_part(text):
    """Return the packed part at the beginning of a text and the rest, or None."""
    found = re.match(r"(0|[1-9][0-9]{0,8}):", text)
    if not found or len(text) < found.end() + int(found.group(1)):
        return None
    end = found.end() + int(found.group(1))
    return text[found.end():end], text[end:]


def plain_unpack(text):
    """Return the parts of a packed text, or None."""
    parts = []
    while text:
        taken = take_part(text)
        if taken is None:
            return None
        part, text = taken
        parts.append(part)
    return parts


def shown_pairs(image):
    """Return the list of pairs that the image of a table shows, or None where it is cut off."""
    pairs = []
    written = image.partition(";")[2].lstrip(".")
    while written:
        key = take_part(written)
        value = key and take_part(key[1])
        if not value:
            return None
        pairs.append((key[0], value[0]))
        written = value[1].lstrip(".")
    return pairs


def plain_layout(cell_count, items):
    cells = [-1] * cell_count
    left = list(range(len(items)))
    while left:
        greatest = max(items[k][1] for k in left)
        first = min((k for k in left if items[k][1] == greatest), key=lambda k: items[k][2])
        left.remove(first)
        for step in range(cell_count):
            cell = (items[first][0] + step) % cell_count
            if cells[cell] == -1:
                cells[cell] = first
                break
    return cells


def plain_items(seed, keys):
    return [(plain_coin(seed, 1, key), plain_coin(seed, 2, key), key) for key in keys]


def plain_cells(seed, pairs):
    """Return the cells of a table from a dict of its pairs."""
    count = 8
    if len(pairs) > 6:
        count = next(2 ** k for k in range(20) if 4 * len(pairs) <= 3 * 2 ** k)
    keys = list(pairs)
    placed = plain_layout(count, plain_items(seed, keys))
    return [None if k == -1 else (keys[k], pairs[keys[k]]) for k in placed]


def plain_table_image(seed, pairs):
    cells = plain_cells(seed, pairs)
    return f"{len(pairs)};" + "".join("." if c is None else plain_pack(list(c)) for c in cells)


def plain_tree(seed, entries):
    """Return the tree of a dict of entries."""
    if not entries:
        return None
    root = min(entries, key=lambda key: (-plain_coin(seed, 3, key), key))
    left = plain_tree(seed, {key: entries[key] for key in entries if key < root})
    right = plain_tree(seed, {key: entries[key] for key in entries if key > root})
    return (root, entries[root], left, right)


def plain_nodes(tree):
    if tree is None:
        return ""
    key, value, left, right = tree
    children = (left is not None) + 2 * (right is not None)
    return str(children) + plain_pack([key, value]) + plain_nodes(left) + plain_nodes(right)


def plain_tree_image(seed, entries):
    return f"{len(entries)};" + plain_nodes(plain_tree(seed, entries))


def near_texts(text, signs="a0:;.13"):
    """Return texts that differ from a text in one place: changed, left out, put in, doubled, exchanged."""
    near = {""}
    for k in range(len(text) + 1):
        near.add(text[:k])
        near.add(text[:k] + text[k + 1:])
        near.add(text[:k] + text[k:k + 1] + text[k:])
        near.add(text[:k] + text[k + 1:k + 2] + text[k:k + 1] + text[k + 2:])
        for sign in signs:
            near.add(text[:k] + sign + text[k + 1:])
            near.add(text[:k] + sign + text[k:])
    near.discard(text)
    return sorted(near)


def shown_entries(image):
    """Return the list of entries that the image of a tree shows, or None where it is cut off."""
    entries = []
    written = image.partition(";")[2]
    while written:
        key = take_part(written[1:])
        value = key and take_part(key[1])
        if not value:
            return None
        entries.append((key[0], value[0]))
        written = value[1]
    return entries


def is_tree_image(seed, image):
    """Tell whether a text is the image of a valid tree, by writing that image anew."""
    entries = shown_entries(image)
    if entries is None or len(entries) > 200:
        return False
    if any(not 1 <= len(key) <= 40 or len(value) > 600 for key, value in entries):
        return False
    return plain_tree_image(seed, dict(entries)) == image


def chain_entries(seed, length):
    """Return entries whose tree is one long path to the right."""
    letters = "abcdefghijklmnopqrstuvwxyz"
    keys = sorted(a + b + c for a in letters for b in letters for c in letters)
    keys = sorted(keys + [key + "0" for key in keys])
    heights = [plain_coin(seed, 3, key) for key in keys]
    return {key: "" for key in longest_fall(keys, heights)[:length]}


def longest_fall(keys, heights):
    """Return the longest row of keys whose heights fall."""
    tops = []
    before = {}
    for k in range(len(keys)):
        low, high = 0, len(tops)
        while low < high:
            middle = (low + high) // 2
            if heights[tops[middle]] > heights[k]:
                low = middle + 1
            else:
                high = middle
        before[k] = tops[low - 1] if low else None
        tops[low:low + 1] = [k]
    row = []
    at = tops[-1]
    while at is not None:
        row.append(keys[at])
        at = before[at]
    return row[::-1]


def plain_pieces(files):
    """Return the list of the keys and blocks of the pieces of all files."""
    pieces = []
    for name, data in files.items():
        texts = [data[k:k + 40] for k in range(0, len(data), 40)] or [""]
        for number, text in enumerate(texts):
            block = f"{len(name):02d}{name}{number:03d}{len(text):02d}{text}"
            pieces.append((f"{name}/{number:03d}", block + " " * (64 - len(block))))
    return pieces


def plain_rest(seed, cells, files):
    """Return the blocks of a disk at rest."""
    pieces = plain_pieces(files)
    placed = plain_layout(cells, plain_items(seed, [key for key, _ in pieces]))
    blank = " " * 64
    return [blank] + [blank if k == -1 else pieces[k][1] for k in placed] + [blank] * cells


def plain_files(seed, cells, blocks):
    """Return the files of a disk at rest, or None, by writing its blocks anew."""
    files = {}
    rows = []
    for block in blocks[1:cells + 1]:
        if block != " " * 64:
            if not re.fullmatch("[0-9]{2}", block[:2]):
                return None
            end = 2 + int(block[:2])
            if not re.fullmatch("[a-z0-9-]{1,12}[0-9]{5}", block[2:end + 5]):
                return None
            length = int(block[end + 3:end + 5])
            rows.append((block[2:end], int(block[end:end + 3]), block[end + 5:end + 5 + length]))
    for name, _, text in sorted(rows):
        files[name] = files.get(name, "") + text
    if any(len(data) > 4000 for data in files.values()) or len(plain_pieces(files)) > cells:
        return None
    return files if plain_rest(seed, cells, files) == blocks else None


def commit_rows(seed, cells, old, new):
    """Return the writes of a commit, each as an index and a block."""
    before = plain_rest(seed, cells, old)
    after = plain_rest(seed, cells, new)
    blank = " " * 64
    changed = [k for k in range(1, cells + 1) if before[k] != after[k]]
    if not changed:
        return []
    rows = [(cells + k, "f" + " " * 63 if after[k] == blank else after[k]) for k in changed]
    rows.append((0, " " * 63 + "1"))
    rows += [(k, after[k]) for k in changed]
    rows.append((0, blank))
    return rows + [(cells + k, blank) for k in changed]


def repair_rows(cells, blocks):
    """Return the writes of a repair, each as an index and a block."""
    blank = " " * 64
    noted = [k for k in range(1, cells + 1) if blocks[cells + k] != blank]
    rows = []
    if blocks[0][63] == "1":
        for k in noted:
            entry = blocks[cells + k]
            rows.append((k, blank if entry == "f" + " " * 63 else entry))
    if blocks[0] != blank:
        rows.append((0, blank))
    return rows + [(cells + k, blank) for k in noted]


def cut_short(blocks, rows, whole, torn):
    """Return the blocks after so many whole writes and a torn one."""
    blocks = list(blocks)
    for index, block in rows[:whole]:
        blocks[index] = block
    if whole < len(rows):
        index, block = rows[whole]
        blocks[index] = block[:torn] + blocks[index][torn:]
    return blocks


def nested_calls(call, *args):
    """Return how deep the program's own calls were nested in a call, and what it returned."""
    depth = [0, 0]

    def watch(frame, event, _):
        if event == "call":
            depth[0] += 1
            depth[1] = max(depth)
        elif event == "return":
            depth[0] -= 1

    sys.setprofile(watch)
    try:
        result = call(*args)
    finally:
        sys.setprofile(None)
    return depth[1], result
