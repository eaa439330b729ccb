"""The hall of lasting files (points 6.20 and 6.21)."""

from lethe.edges import load_edges
from lethe.errors import BadForm
from lethe.hall import Hall
from lethe.lasting import lasting_files
from lethe.log import load_log
from lethe.pins import load_pins
from lethe.snaps import load_snaps
from lethe.store import store_of_map


def hall_of(seed, files):
    """Return the hall without transactions whose lasting files these are."""
    if "map" not in files:
        raise BadForm("there is no file of the map")
    hall = Hall(seed)
    hall.store = store_of_map(seed, files["map"])
    hall.edges = edges_between(hall.store, files.get("edges", ""))
    hall.log = load_log(files.get("log", ""))
    hall.snaps = load_snaps(seed, files.get("snaps", ""))
    hall.pins = load_pins(files.get("pins", ""), hall.store)
    # Only the files themselves tell that the index and the points fit, and that no file is empty, missing or foreign.
    if lasting_files(hall) != files:
        raise BadForm("these are not the lasting files of a hall")
    return hall


def edges_between(store, image):
    """Return the edges with this image, which have keys of records only."""
    edges = load_edges(image)
    if not all([store.has(key) for key in edges.ends()]):
        raise BadForm("a key of an edge has no record")
    return edges
