"""Scripts of events, and looks at the blocks of a realm (points 10.11 and 10.12)."""

from lethe.coins import SEAL, coin
from lethe.errors import BadForm
from lethe.events import read_event

# An event that never may happen: it is answered with bad, and its number is used up.
NO_EVENT = ("",)


def run_script(realm, script):
    """Let the events of a script happen; return the answers."""
    return [realm.handle(event_of(line)) for line in script.split("\n")]


def event_of(line):
    """Return the event of a line, or one that never may happen."""
    try:
        return read_event(line)
    except BadForm:
        return NO_EVENT


def look(realm):
    """Return for each place whether it is up, and the sum of its blocks."""
    return "\n".join([place_look(realm, place) for place in realm.places()])


def place_look(realm, place):
    """Return the row of a place in a look."""
    state = "up" if realm.is_up(place) else "down"
    seal = coin(realm.seed, SEAL, "".join(realm.blocks_of(place)))
    return f"{place} {state} {seal}"


def same_blocks(first, second):
    """Tell whether two realms have the same places with the same blocks."""
    return all_blocks(first) == all_blocks(second)


def all_blocks(realm):
    """Return the blocks of each place."""
    return [(place, realm.blocks_of(place)) for place in realm.places()]
