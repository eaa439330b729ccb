"""Acts between a house and a vault (points 9.7 to 9.9)."""

from lethe.errors import Down


def backup(house, vault, place, name):
    """Let the vault keep the lasting files of the house as a generation."""
    check_both_up(house, vault)
    if due_keys(house, place):
        return "due"
    return vault.keep(name, house.lasting())


def tend(house, vault, place):
    """Let the vault cut all keys for which the house has duties, and remove these duties."""
    check_both_up(house, vault)
    keys = due_keys(house, place)
    if not keys:
        return "none"
    if vault.cut_keys(keys) == "lost":
        return "lost vault"
    return house.remove_duties(place, keys)


def check_both_up(house, vault):
    """Raise an error if the house or the vault is down."""
    if not house.is_up() or not vault.is_up():
        raise Down("the house or the vault is down")


def due_keys(house, place):
    """Return the keys for which the house has a duty for this place, ascending."""
    return [key for key, other in house.duties() if other == place]
