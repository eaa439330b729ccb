"""A realm that the tests handle themselves: a house, twins, vaults and a post, and what the document says of events."""

from lethe.acts import backup, tend
from lethe.answers import answer
from lethe.houses import House
from lethe.letters import read_letter
from lethe.post import Post
from lethe.twins import Twin
from lethe.vaults import Vault
from tests.plain_hall import random_hall_line

KEYS = ["a", "b", "c", "lost"]


class HandRealm:
    """The places of a realm, one event after the other by hand."""

    def __init__(self, seed, twins, vaults):
        self.twins = {f"t{k}": Twin(f"t{k}", seed) for k in range(1, twins + 1)}
        self.vaults = {f"v{k}": Vault(seed) for k in range(1, vaults + 1)}
        self.home = House(seed, [*self.vaults, *self.twins])
        self.away = set()
        self.post = Post()
        self.number = 0
        # Lists of effects; those of what was lost are empty until it was made.
        self.rows = []
        self.lost = {}

    def places(self):
        return ["home", *self.twins, *self.vaults]

    def place(self, name):
        return {"home": self.home, **self.twins, **self.vaults}[name]

    def is_up(self, name):
        return not self.twins[name].is_down() if name in self.twins else self.place(name).is_up()

    def effects(self):
        return [effect for row in self.rows for effect in row]

    def letters(self):
        return [read_letter(letter) for letter in self.post.letters()]

    def blocks(self):
        return {name: self.place(name).blocks() for name in self.places()}

    def is_good(self, word, args):
        index = [lambda i: i >= 0]
        vault, twin, place = [self.vaults.__contains__], [self.twins.__contains__], [self.places().__contains__]
        name = [lambda text: True]
        tests = {"say": name * 2, "ask": twin, "deliver": index, "lose": index, "double": index, "backup": vault + name,
                 "discard": vault + name, "tend": vault, "away": vault, "back": vault, "restart": place,
                 "power": place + [range(-1, 100001).__contains__, range(64).__contains__]}
        return word in tests and all(test(arg) for test, arg in zip(tests[word], args))

    def handle(self, event):
        self.number += 1
        word, *args = event
        return getattr(self, "on_" + word)(*args) if self.is_good(word, args) else "bad"

    def on_say(self, session, line):
        if not self.home.is_up():
            return "down"
        answered, effects = self.home.run(session, line, self.number)
        self.rows.append([("line", effect) for effect in effects])
        if not self.home.is_up():
            self.lost["home"] = self.rows[-1]
        return answered

    def on_ask(self, name):
        if self.twins[name].is_down():
            return "down"
        if self.post.size() == 40:
            return "full"
        self.post.send(self.twins[name].ask(self.number))
        return "sent"

    def on_deliver(self, index):
        if not self.post.size():
            return "none"
        letter = self.post.deliver(index % self.post.size())
        read = read_letter(letter)
        if not self.is_up(read[1] if read[0] == "part" else "home"):
            return "down"
        if read[0] == "done":
            return self.home.confirmed(read[1], read[3])
        if read[0] == "ask":
            word, letters = "answered", answer(letter, self.number, self.home.lasting())
            if self.post.size() + len(letters) > 40:
                return "full"
        else:
            word, letters = self.twins[read[1]].take(letter)
        for one in letters:
            self.post.send(one)
        return word

    def on_lose(self, index):
        if not self.post.size():
            return "none"
        self.post.lose(index % self.post.size())
        return "lost"

    def on_double(self, index):
        if not self.post.size():
            return "none"
        return "doubled" if self.post.double(index % self.post.size()) else "full"

    def stopped(self, *names):
        """Return down or away for an act between places, or None."""
        if not all(self.is_up(name) for name in names):
            return "down"
        return "away" if self.away & set(names) else None

    def act(self, name, answered, effect):
        if answered in ("ok", "lost"):
            self.rows.append([effect] if answered == "ok" else [])
        if answered == "lost":
            self.lost[name] = self.rows[-1]
            self.lost[name + " effect"] = effect
        return answered

    def on_backup(self, name, generation):
        stopped = self.stopped("home", name)
        if stopped:
            return stopped
        answered = backup(self.home, self.vaults[name], name, generation)
        return self.act(name, answered, ("keep", name, generation))

    def on_discard(self, name, generation):
        stopped = self.stopped(name)
        if stopped:
            return stopped
        return self.act(name, self.vaults[name].discard(generation), ("discard", name, generation))

    def on_tend(self, name):
        return self.stopped("home", name) or tend(self.home, self.vaults[name], name)

    def on_away(self, name):
        self.away.add(name)
        return "ok"

    def on_back(self, name):
        self.away.discard(name)
        return "ok"

    def on_power(self, name, writes, torn):
        place = self.place(name)
        (place.medium() if name in self.twins else place).supply(writes, torn)
        return "ok"

    def on_restart(self, name):
        if name in self.twins:
            return self.twins[name].restart()
        if name == "home":
            answered, effects = self.home.restart(self.number)
            effects = [("line", effect) for effect in effects]
        else:
            answered = self.vaults[name].restart()
            effects = [self.lost[name + " effect"]] if name in self.lost else []
        if answered != "down":
            row = self.lost.pop(name, [])
            row.extend(effects if answered == "made" else [])
        return answered

    def settle(self):
        """Handle the events that point 10.6 names."""
        for name in self.places():
            self.handle(("power", name, -1, 0))
            if not self.is_up(name):
                self.handle(("restart", name))
        for name in self.vaults:
            self.handle(("back", name))
        for _ in self.post.letters():
            self.handle(("lose", 0))
        for name in self.vaults:
            self.handle(("tend", name))
        for name in self.twins:
            self.handle(("ask", name))
            while self.post.size():
                self.handle(("deliver", 0))


def random_line(choice):
    """Return a line of a home; keys are forgotten and put anew often."""
    key = choice.choice(KEYS)
    return choice.choice([random_hall_line(choice, KEYS)] * 6 + [f"forget {key}", f"forget {key}", f"status {key}"])


def random_event(choice, places):
    """Return an event, mostly one that names a place that is there."""
    place = choice.choice(places)
    twin = choice.choice([name for name in places if name[0] == "t"] or ["t1"])
    vault = choice.choice([name for name in places if name[0] == "v"] or ["v1"])
    index, name = choice.randrange(50), choice.choice(["g", "h", "gg"])
    turn = choice.randrange(20)
    if turn < 6:
        return ("say", choice.choice(["s", "t"]), random_line(choice))
    if turn < 11:
        return ("deliver", index)
    if turn < 13:
        return ("ask", twin)
    if turn < 15:
        return choice.choice([("power", place, choice.choice([-1, choice.randrange(25)]), choice.randrange(64)),
                              ("restart", place), ("power", place, -1, 0), ("restart", place)])
    return choice.choice([("lose", index), ("double", index), ("backup", vault, name), ("backup", vault, name),
                          ("discard", vault, name), ("tend", vault), ("away", vault), ("back", vault), ("back", vault)])
