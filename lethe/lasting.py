"""The lasting files of a hall (point 6.20)."""


def lasting_files(hall):
    """Return the texts of the lasting files by their names."""
    store = hall.store
    files = {"map": store.map_image()}
    if store.size() > 0:
        files["words"] = store.index_image()
        files["points"] = store.points_image()
    rest = {
        "edges": hall.edges.image(),
        "log": hall.log.image(),
        "snaps": hall.snaps.image(),
        "pins": hall.pins.image(store),
    }
    files.update({name: rest[name] for name in rest if rest[name] != ""})
    return files
