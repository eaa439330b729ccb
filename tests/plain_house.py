"""A plain calculation for the tests of houses, written from the document alone."""

import re

from tests.plain import plain_pack
from tests.plain_hall import NAME, PlainHall


class PlainHouse:
    """A plain hall, and a dict of duties with the numbers at which they are noted; its power never fails."""

    def __init__(self, seed, places):
        self.seed = seed
        self.hall = PlainHall(seed)
        self.places = list(places)
        self.noted = {}

    def run(self, session, line, number):
        word, _, key = line.partition(" ")
        if word not in ("forget", "status"):
            return self.hall.run(session, line)
        if not re.fullmatch(NAME, session) or not re.fullmatch(NAME, key):
            return "bad", []
        if word == "status":
            places = sorted(place for other, place in self.noted if other == key)
            return " ".join(["pending", *places]) if places else "clear", []
        return self.forget(key, number)

    def forget(self, key, number):
        if self.places and len({other for other, _ in self.noted} - {key}) >= 6:
            return "full", []
        if self.hall.erase(key) == "held":
            return "held", []
        self.noted.update({(key, place): number for place in self.places})
        return ("pending" if self.places else "forgotten"), ["forget " + key]

    def confirmed(self, place, moment):
        return self.remove([pair for pair in self.noted if pair[1] == place and self.noted[pair] < moment])

    def remove_duties(self, place, keys):
        return self.remove([pair for pair in self.noted if pair[1] == place and pair[0] in keys])

    def remove(self, pairs):
        self.noted = {pair: self.noted[pair] for pair in self.noted if pair not in pairs}
        return "ok" if pairs else "none"

    def restart(self, number):
        """Give up the memory, as a house does when it is restarted."""
        self.hall.transactions = {}
        self.noted = {pair: number for pair in self.noted}

    def duties(self):
        return sorted(self.noted)

    def lasting(self):
        return self.hall.lasting()

    def files(self):
        """Return all files, that of the duties among them."""
        files = self.lasting()
        if self.noted:
            files["duty"] = plain_pack([text for pair in self.duties() for text in pair])
        return files
