"""Ways, distances, trails and groups over edges (points 5.34 to 5.38)."""

from lethe.errors import Missing


def steps_of(edges, kinds):
    """Return the source and the target of each edge of the kinds."""
    return [(source, target) for source, kind, target in edges.edges() if kind in kinds]


def reversed_steps(steps):
    """Return the steps in the other direction."""
    return [(target, source) for source, target in steps]


def targets_of(steps, keys):
    """Return the keys to which a step leads from one of the keys, ascending."""
    return sorted({target for source, target in steps if source in keys})


def spread(steps, start):
    """Return the distance of each key to which steps lead from the start."""
    found = {start: 0}
    newest = [start]
    distance = 0
    while newest:
        distance += 1
        newest = [key for key in targets_of(steps, newest) if key not in found]
        found.update({key: distance for key in newest})
    return found


def best_way(edges, kinds, start, end):
    """Return the least of the shortest ways from the start to the end."""
    steps = steps_of(edges, kinds)
    left = spread(reversed_steps(steps), end)
    if start not in left:
        raise Missing("there is no way")
    way = [start]
    while way[-1] != end:
        nearer = left[way[-1]] - 1
        # The least of the keys that are one step nearer to the end stands first.
        way.append([key for key in targets_of(steps, [way[-1]]) if left.get(key) == nearer][0])
    return way


def distances(edges, kinds, start):
    """Return the keys that have a distance from the start, each with it, in ascending order of keys."""
    found = spread(steps_of(edges, kinds), start)
    return [(key, found[key]) for key in sorted(found)]


def trail_ends(edges, start, trail):
    """Return the keys at the end of the trail from the start, ascending."""
    keys = [start]
    for kind in trail:
        keys = targets_of(steps_of(edges, [kind]), keys)
    return keys


def groups(edges, kinds):
    """Return the groups into which the kinds divide the keys."""
    steps = steps_of(edges, kinds)
    both = steps + reversed_steps(steps)
    found = []
    for key in sorted({source for source, _ in both}):
        if not any([key in group for group in found]):
            found.append(sorted(spread(both, key)))
    return found
