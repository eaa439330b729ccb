"""A plain calculation for the tests of twins, written from the document alone."""

from tests.plain import plain_pack, plain_pieces
from tests.test_letters import plain_letter

CELLS = 192


class PlainTwin:
    """The open question and the parts of a twin whose power never fails."""

    def __init__(self, name):
        self.name = name
        self.files = {}
        self.close()

    def close(self):
        self.question = 0
        self.rows = []

    def ask(self, number):
        self.close()
        self.question = number
        return plain_pack(["ask", self.name, str(number)])

    def waiting(self):
        return sorted(row[1] for row in self.rows)

    def take(self, letter):
        """Return the word and the letters, by the rules of point 8.5 one after the other."""
        read = plain_letter(letter)
        if read[:3] != ("part", self.name, self.question):
            return "old", []
        moment, index, count, name, data = read[3:]
        if any(row[0] > moment for row in self.rows):
            return "old", []
        same = [row for row in self.rows if row[0] == moment]
        if any(row[1] == index or row[2] != count for row in same):
            return "old", []
        self.rows = same + [(moment, index, count, name, data)]
        if len(self.rows) < count:
            return "kept", []
        return self.write(moment)

    def write(self, moment):
        files = {name: data for _, _, count, name, data in self.rows if count > 0}
        fits = len(files) == self.rows[0][2] and len(plain_pieces(files)) <= CELLS
        done = plain_pack(["done", self.name, str(self.question), str(moment)])
        self.close()
        if not fits:
            return "full", []
        self.files = files
        return "written", [done]
