"""The index of words (points 4.2 and 4.3)."""

from lethe.errors import BadForm, Full, Missing, NotAllowed, Twice
from lethe.order import Order, load_order
from lethe.packing import number_of
from lethe.words import is_name, words

MAX_TEXTS = 8
MAX_INDEXED = 16


class Index:
    """The words of texts and their places, under names."""

    def __init__(self, seed):
        self._order = Order(seed)

    def put(self, key, text):
        """Know the words of a text under a name."""
        if not is_name(key) or len(text) > MAX_INDEXED:
            raise NotAllowed("the key is no name, or the text is too long")
        if self._knows(key):
            raise Twice("the name is known")
        if len(self.names()) >= MAX_TEXTS:
            raise Full("an index knows at most 8 texts")
        found = words(text)
        for word in sorted(set(found)):
            places = [str(k) for k in range(len(found)) if found[k] == word]
            self._order.put(f"{word}.{key}", ",".join(places))
        self._order.put(f".{key}", str(len(found)))

    def drop(self, key):
        """Forget a name and its words."""
        if not self._knows(key):
            raise Missing("the name is not known")
        rows = [row_key for row_key, _ in self._order.entries() if row_key.partition(".")[2] == key]
        for row_key in rows:
            self._order.drop(row_key)

    def names(self):
        """Return the known names, ascending."""
        # The slash is the sign behind the period.
        return [key[1:] for key, _ in self._order.span(".", "/")]

    def places(self, word, key):
        """Return the places of the word in the text of the name, ascending."""
        row_key = f"{word}.{key}"
        # The key that begins with the period tells the number of words.
        if word == "" or not self._order.has(row_key):
            return []
        return [int(place) for place in self._order.value_of(row_key).split(",")]

    def having(self, word):
        """Return the names whose texts have the word, ascending."""
        return [name for known, name in self._word_names() if known == word]

    def beginning(self, start):
        """Return the names whose texts have a word that begins so, ascending."""
        return sorted({name for known, name in self._word_names() if known.startswith(start)})

    def image(self):
        """Return the image."""
        return self._order.image()

    def _knows(self, key):
        return self._order.has(f".{key}")

    def _word_names(self):
        """Return each word with each name whose text has it, in ascending order."""
        rows = [key.partition(".") for key, _ in self._order.entries()]
        return [(row[0], row[2]) for row in rows if row[0] != ""]


def load_index(seed, image):
    """Return the index of the seed whose image the text is."""
    index = index_of(seed, shortest_texts(load_order(seed, image)))
    # Only the image itself tells that each word and each number is right.
    if index.image() != image:
        raise BadForm("the text is not the image of an index of this seed")
    return index


def index_of(seed, texts):
    """Return the index of texts that were read from an image."""
    index = Index(seed)
    try:
        for name in texts:
            index.put(name, texts[name])
    except (NotAllowed, Full):
        raise BadForm("the image has a name or a text that is not allowed") from None
    return index


def shortest_texts(order):
    """Return for each name that an order shows the shortest text with the words in their places."""
    placed = {}
    for key, value in order.entries():
        word, _, name = key.partition(".")
        rows = placed.setdefault(name, [])
        if word != "":
            rows.extend([(number_of(place), word) for place in value.split(",")])
    return {known: joined_words(placed[known]) for known in placed}


def joined_words(rows):
    """Return the shortest text with the words of the rows, each a place and its word."""
    return " ".join([word for _, word in sorted(rows)])
