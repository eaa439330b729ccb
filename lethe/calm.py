"""Calm realms, which are made from effects alone (points 10.5 and 10.7 to 10.9)."""

from lethe.hall_lines import command_of, speaks
from lethe.realms import Realm

CALM_SESSION = "c"


def calm(seed, twins, vaults, effects):
    """Return the calm realm of effects."""
    realm = Realm(seed, twins, vaults)
    for effect in effects:
        realm.handle(calm_event(effect))
        if is_line(effect) and command_of(effect[1]) == "forget":
            realm.settle()
    realm.settle()
    return realm


def calm_event(effect):
    """Return the event that has this effect."""
    if is_line(effect):
        return "say", CALM_SESSION, effect[1]
    if effect[0] == "keep":
        return "backup", effect[1], effect[2]
    return "discard", effect[1], effect[2]


def is_line(effect):
    """Tell whether an effect is that of a line of the home."""
    return effect[0] == "line"


def effect_speaks(effect, key):
    """Tell whether an effect speaks of the key."""
    return is_line(effect) and speaks(effect[1], key)


def without(effects, key):
    """Return the effects that do not speak of the key, in order."""
    return [effect for effect in effects if not effect_speaks(effect, key)]


def forgotten(effects, key):
    """Tell whether the last effect that speaks of the key forgets it."""
    about = [effect for effect in effects if effect_speaks(effect, key)]
    return about[-1:] == [("line", f"forget {key}")]
