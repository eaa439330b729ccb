"""Realms: a home, twins and vaults, and the events that happen to them (points 10.1 to 10.6)."""

from lethe.acts import backup, tend
from lethe.answers import answer
from lethe.blocks import BLOCK, MAX_SUPPLY, NO_LIMIT
from lethe.errors import Missing, NotAllowed
from lethe.events import EVENT_FORMS
from lethe.history import History
from lethe.houses import House
from lethe.letters import read_letter
from lethe.post import Post
from lethe.twins import Twin
from lethe.vaults import Vault

HOME_NAME = "home"
MAX_OF_KIND = 3


class Realm:
    """Places, the letters between them, and what has happened to them."""

    def __init__(self, seed, twins, vaults):
        twin_names = numbered_names("t", twins)
        vault_names = numbered_names("v", vaults)
        self.seed = seed
        self._home = House(seed, twin_names + vault_names)
        self._twins = {name: Twin(name, seed) for name in twin_names}
        self._vaults = {name: Vault(seed) for name in vault_names}
        self._away = {name: False for name in vault_names}
        self._post = Post()
        self._history = History()
        self._number = 0

    def handle(self, event):
        """Let an event happen; return the answer."""
        self._number += 1
        if not is_possible(self, event):
            return "bad"
        action = ACTIONS[event[0]]
        return action(self, event)

    def settle(self):
        """Give power to all places, and let them forget and copy what they have to."""
        for place in self.places():
            self.handle(("power", place, NO_LIMIT, 0))
            if not self.is_up(place):
                self.handle(("restart", place))
        for vault in sorted(self._vaults):
            self.handle(("back", vault))
        while self._post.size() > 0:
            self.handle(("lose", 0))
        for vault in sorted(self._vaults):
            self.handle(("tend", vault))
        for twin in sorted(self._twins):
            self.handle(("ask", twin))
            while self._post.size() > 0:
                self.handle(("deliver", 0))

    def effects(self):
        """Return the effects, in the order in which they happened."""
        return self._history.effects()

    def number(self):
        """Return the number of the last event, 0 before the first."""
        return self._number

    def places(self):
        """Return the names of the places: home, twins, vaults."""
        return [HOME_NAME] + sorted(self._twins) + sorted(self._vaults)

    def blocks_of(self, place):
        """Return the blocks of a place."""
        return self._place(place).blocks()

    def is_up(self, place):
        """Tell whether a place is up."""
        if place in self._twins:
            return not self._twins[place].is_down()
        return self._place(place).is_up()

    def letters(self):
        """Return what the letters that are under way say, in order."""
        return [read_letter(letter) for letter in self._post.letters()]

    def _place(self, name):
        """Return the house, the twin or the vault of this name."""
        if name in self._twins:
            return self._twins[name]
        if name in self._vaults:
            return self._vaults[name]
        if name != HOME_NAME:
            raise Missing("there is no such place")
        return self._home


def numbered_names(first, count):
    """Return the names of so many twins or vaults."""
    if count < 0 or count > MAX_OF_KIND:
        raise NotAllowed("a realm has 0 to 3 twins and vaults")
    return [f"{first}{k + 1}" for k in range(count)]


def is_possible(realm, event):
    """Tell whether an event is one of those that may happen in a realm."""
    command = event[0]
    if command not in EVENT_FORMS or len(event) != 1 + len(EVENT_FORMS[command]):
        return False
    return all([is_fit(realm, kind, part) for kind, part in zip(EVENT_FORMS[command], event[1:])])


def is_fit(realm, kind, part):
    """Tell whether a part of an event is there or in its range."""
    if kind == "twin":
        return part in realm._twins
    if kind == "vault":
        return part in realm._vaults
    if kind == "place":
        return part in realm.places()
    if kind == "index":
        return part >= 0
    if kind == "writes":
        return NO_LIMIT <= part <= MAX_SUPPLY
    if kind == "torn":
        return 0 <= part < BLOCK
    # Sessions, lines and the names of generations are looked at by the places themselves.
    return True


def say_answer(realm, event):
    """Answer the event `say`."""
    home = realm._home
    if not home.is_up():
        return "down"
    answered, effects = home.run(event[1], event[2], realm._number)
    if home.is_up():
        realm._history.note(line_effects(effects))
    else:
        # The answer alone would not tell: a question may be answered with a key that is written like this.
        realm._history.lose(HOME_NAME, [])
    return answered


def line_effects(lines):
    """Return the effects that are lines of the home."""
    return [("line", line) for line in lines]


def ask_answer(realm, event):
    """Answer the event `ask`."""
    twin = realm._twins[event[1]]
    if twin.is_down():
        return "down"
    if realm._post.room() <= 0:
        return "full"
    realm._post.send(twin.ask(realm._number))
    return "sent"


def letter_index(realm, event):
    """Return the index of the letter that an event means; there are letters."""
    return event[1] % realm._post.size()


def deliver_answer(realm, event):
    """Answer the event `deliver`."""
    if realm._post.size() == 0:
        return "none"
    letter = realm._post.deliver(letter_index(realm, event))
    parsed = read_letter(letter)
    if parsed[0] == "part":
        return deliver_part(realm, realm._twins[parsed[1]], letter)
    if not realm._home.is_up():
        return "down"
    if parsed[0] == "done":
        return realm._home.confirmed(parsed[1], parsed[3])
    return deliver_ask(realm, letter)


def deliver_part(realm, twin, letter):
    """Let a twin take a part, and send its confirmation."""
    if twin.is_down():
        return "down"
    word, letters = twin.take(letter)
    send_all(realm, letters)
    return word


def deliver_ask(realm, letter):
    """Let the home answer a question, if there is room for the whole answer."""
    letters = answer(letter, realm._number, realm._home.lasting())
    if len(letters) > realm._post.room():
        return "full"
    send_all(realm, letters)
    return "answered"


def send_all(realm, letters):
    """Send letters; those for which there is no room are lost."""
    for letter in letters:
        realm._post.send(letter)


def lose_answer(realm, event):
    """Answer the event `lose`."""
    if realm._post.size() == 0:
        return "none"
    realm._post.lose(letter_index(realm, event))
    return "lost"


def double_answer(realm, event):
    """Answer the event `double`."""
    if realm._post.size() == 0:
        return "none"
    return "doubled" if realm._post.double(letter_index(realm, event)) else "full"


def backup_answer(realm, event):
    """Answer the event `backup`."""
    _, vault, name = event
    hindered = hindered_act(realm, vault)
    if hindered != "":
        return hindered
    answered = backup(realm._home, realm._vaults[vault], vault, name)
    return note_act(realm, vault, answered, ("keep", vault, name))


def discard_answer(realm, event):
    """Answer the event `discard`."""
    _, vault, name = event
    hindered = hindered_vault(realm, vault)
    if hindered != "":
        return hindered
    answered = realm._vaults[vault].discard(name)
    return note_act(realm, vault, answered, ("discard", vault, name))


def tend_answer(realm, event):
    """Answer the event `tend`."""
    hindered = hindered_act(realm, event[1])
    if hindered != "":
        return hindered
    return tend(realm._home, realm._vaults[event[1]], event[1])


def hindered_act(realm, vault):
    """Return the answer if the home or the vault cannot act, and otherwise the empty text."""
    return hindered_vault(realm, vault) if realm._home.is_up() else "down"


def hindered_vault(realm, vault):
    """Return the answer if the vault cannot act, and otherwise the empty text."""
    if not realm._vaults[vault].is_up():
        return "down"
    return "away" if realm._away[vault] else ""


def note_act(realm, vault, answered, effect):
    """Note the effect of an act of a vault, or that the act was lost; return the answer."""
    if answered == "ok":
        realm._history.note([effect])
    elif answered == "lost":
        realm._history.lose(vault, [effect])
    return answered


def away_answer(realm, event):
    """Answer the event `away`."""
    realm._away[event[1]] = True
    return "ok"


def back_answer(realm, event):
    """Answer the event `back`."""
    realm._away[event[1]] = False
    return "ok"


def power_answer(realm, event):
    """Answer the event `power`."""
    _, place, writes, torn = event
    if place in realm._twins:
        realm._twins[place].medium().supply(writes, torn)
    else:
        realm._place(place).supply(writes, torn)
    return "ok"


def restart_answer(realm, event):
    """Answer the event `restart`."""
    place = event[1]
    if place in realm._twins:
        return realm._twins[place].restart()
    effects = []
    if place == HOME_NAME:
        answered, effects = realm._home.restart(realm._number)
    else:
        answered = realm._vaults[place].restart()
    if answered != "down":
        realm._history.resolve(place, answered == "made", line_effects(effects))
    return answered


ACTIONS = {
    "say": say_answer,
    "ask": ask_answer,
    "deliver": deliver_answer,
    "lose": lose_answer,
    "double": double_answer,
    "backup": backup_answer,
    "discard": discard_answer,
    "tend": tend_answer,
    "away": away_answer,
    "back": back_answer,
    "power": power_answer,
    "restart": restart_answer,
}
