"""Trees of an ordered map, as nested tuples (points 2.1 to 2.5 and 2.8).

No function here calls itself, so that a deep tree makes no deep calls.
"""

from lethe.coins import HEIGHT, coin
from lethe.errors import BadForm
from lethe.packing import number_of, pack, part_at

MAX_ENTRY_KEY = 40
MAX_ENTRY_VALUE = 600
MAX_ENTRIES = 200


def above(seed, key, other):
    """Tell whether the first key ranks above the second one; they differ."""
    height = coin(seed, HEIGHT, key)
    other_height = coin(seed, HEIGHT, other)
    if height == other_height:
        return key < other
    return height > other_height


def preorder(tree):
    """Return the list of the nodes, each before its left and its right subtree."""
    nodes = []
    waiting = [tree]
    while waiting:
        node = waiting.pop()
        if node is not None:
            nodes.append(node)
            waiting.append(node[3])
            waiting.append(node[2])
    return nodes


def tree_size(tree):
    """Return the number of nodes."""
    return len(preorder(tree))


def tree_entries(tree):
    """Return the entries in ascending order of keys."""
    entries = []
    waiting = []
    node = tree
    while node is not None or waiting:
        if node is not None:
            waiting.append(node)
            node = node[2]
        else:
            key, value, _, node = waiting.pop()
            entries.append((key, value))
    return entries


def split_tree(tree, key):
    """Return the tree of the lesser keys and the tree of the other ones."""
    lower = None
    upper = None
    for node in reversed(path_towards(tree, key)):
        if node[0] < key:
            lower = (node[0], node[1], node[2], lower)
        else:
            upper = (node[0], node[1], upper, node[3])
    return lower, upper


def path_towards(tree, key):
    """Return the nodes from the root down to the gap that lies just below the key."""
    path = []
    node = tree
    while node is not None:
        path.append(node)
        node = child_towards(node, key)
    return path


def child_towards(node, key):
    """Return the child on the side of a key; the side of the node's own key is the left one."""
    return node[3] if node[0] < key else node[2]


def join_trees(seed, lower, upper):
    """Return the tree of both trees; each key of the first is less than each of the second."""
    path = []
    low = lower
    high = upper
    while low is not None and high is not None:
        if above(seed, low[0], high[0]):
            path.append((True, low))
            low = low[3]
        else:
            path.append((False, high))
            high = high[2]
    tree = high if low is None else low
    for is_low, node in reversed(path):
        if is_low:
            tree = (node[0], node[1], node[2], tree)
        else:
            tree = (node[0], node[1], tree, node[3])
    return tree


def put_entry(seed, tree, key, value):
    """Return the tree in which the key has the value."""
    path = []
    node = tree
    while node is not None and node[0] != key and above(seed, node[0], key):
        path.append(node)
        node = child_towards(node, key)
    if node is not None and node[0] == key:
        return hung_below(path, key, (key, value, node[2], node[3]))
    lower, upper = split_tree(node, key)
    return hung_below(path, key, (key, value, lower, upper))


def drop_entry(seed, tree, key):
    """Return the tree without the entry of the key."""
    path = []
    node = tree
    while node is not None and node[0] != key:
        path.append(node)
        node = child_towards(node, key)
    if node is None:
        return tree
    return hung_below(path, key, join_trees(seed, node[2], node[3]))


def hung_below(path, key, subtree):
    """Return the tree of a path from the root towards a key, with a new subtree at its end."""
    tree = subtree
    for node in reversed(path):
        if node[0] < key:
            tree = (node[0], node[1], node[2], tree)
        else:
            tree = (node[0], node[1], tree, node[3])
    return tree


def find_value(tree, key):
    """Return the value of the key, or None."""
    node = tree
    while node is not None and node[0] != key:
        node = child_towards(node, key)
    return None if node is None else node[1]


def tree_image(tree):
    """Return the image (point 2.4)."""
    nodes = preorder(tree)
    return f"{len(nodes)};" + "".join([node_image(node) for node in nodes])


def node_image(node):
    """Return the image of one node without its subtrees."""
    children = 0
    if node[2] is not None:
        children += 1
    if node[3] is not None:
        children += 2
    return str(children) + pack([node[0], node[1]])


def is_entry(key, value):
    """Tell whether a map may have this key and this value."""
    return 1 <= len(key) <= MAX_ENTRY_KEY and len(value) <= MAX_ENTRY_VALUE


def is_shaped(seed, tree):
    """Tell whether the tree is a search tree whose nodes rank above their subtrees."""
    entries = tree_entries(tree)
    for k in range(1, len(entries)):
        if entries[k - 1][0] >= entries[k][0]:
            return False
    for node in preorder(tree):
        for child in (node[2], node[3]):
            if child is not None and not above(seed, node[0], child[0]):
                return False
    return True


def tree_from_image(seed, image):
    """Return the valid tree whose image the text is."""
    number, mark, written = image.partition(";")
    rows = image_rows(written)
    if mark == "" or number_of(number) != len(rows):
        raise BadForm("the number of entries is wrong")
    if len(rows) > MAX_ENTRIES:
        raise BadForm("a map has at most 200 entries")
    tree = tree_of_rows(rows)
    if not is_shaped(seed, tree):
        raise BadForm("the nodes are not where they belong")
    return tree


def image_rows(written):
    """Return the nodes that a text shows, each as its digit, its key and its value."""
    rows = []
    at = 0
    while at < len(written):
        if written[at] not in ("0", "1", "2", "3"):
            raise BadForm("a node does not begin with a digit from 0 to 3")
        children = int(written[at])
        key, at = part_at(written, at + 1)
        value, at = part_at(written, at)
        if not is_entry(key, value):
            raise BadForm("a key or a value has a length that is not allowed")
        rows.append((children, key, value))
    return rows


def tree_of_rows(rows):
    """Return the tree whose nodes, in preorder, the rows are."""
    trees = []
    # From the last row on, the children of a node are the newest trees, the left one last.
    for children, key, value in reversed(rows):
        if len(trees) < (children & 1) + (children >> 1):
            raise BadForm("a node is cut off")
        left = trees.pop() if children & 1 else None
        right = trees.pop() if children & 2 else None
        trees.append((key, value, left, right))
    if len(trees) > 1:
        raise BadForm("a node is left over")
    return trees[0] if trees else None
