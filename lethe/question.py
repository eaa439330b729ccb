"""Questions about the words of texts (points 4.4 to 4.6)."""

from lethe.errors import BadForm
from lethe.words import MAX_WORD, SIGNS

MAX_QUESTION = 40
MAX_AROUND = 8
MARKS = "|&!()*+"

# What stands behind the last token, so that there is always a token to look at.
END = ""


def parse(question):
    """Return the question as nested tuples."""
    if len(question) > MAX_QUESTION:
        raise BadForm("a question has at most 40 characters")
    tokens = tokens_of(question) + [END]
    tree, end = either_at(tokens, 0, 0)
    if tokens[end] != END:
        raise BadForm("a question goes on behind its end")
    return tree


def tokens_of(question):
    """Return the words and marks of a question, with small letters, in order."""
    spaced = "".join([f" {c} " if c in MARKS else c for c in question.lower()])
    return [token for token in spaced.split(" ") if token != ""]


# Each of the next functions reads what begins at an index of the tokens, and returns it together with the index
# behind it. The number around tells how many parentheses and signs ! stand around it.


def either_at(tokens, at, around):
    """Return the parts that are joined by |."""
    tree, end = both_at(tokens, at, around)
    while tokens[end] == "|":
        side, end = both_at(tokens, end + 1, around)
        tree = ("either", tree, side)
    return tree, end


def both_at(tokens, at, around):
    """Return the parts that are joined by &."""
    tree, end = part_at(tokens, at, around)
    while tokens[end] == "&":
        side, end = part_at(tokens, end + 1, around)
        tree = ("both", tree, side)
    return tree, end


def part_at(tokens, at, around):
    """Return one part."""
    if around > MAX_AROUND:
        raise BadForm("more than 8 parentheses and signs ! stand around a part")
    if tokens[at] == "!":
        part, end = part_at(tokens, at + 1, around + 1)
        return ("not", part), end
    if tokens[at] == "(":
        part, end = either_at(tokens, at + 1, around + 1)
        if tokens[end] != ")":
            raise BadForm("a parenthesis is not closed")
        return part, end + 1
    return row_at(tokens, at)


def row_at(tokens, at):
    """Return a word, the beginning of a word, or a row of words."""
    found = [word_of(tokens[at])]
    end = at + 1
    if tokens[end] == "*":
        return ("begin", found[0]), end + 1
    while tokens[end] == "+":
        found.append(word_of(tokens[end + 1]))
        end += 2
    if len(found) == 1:
        return ("word", found[0]), end
    return tuple(["row"] + found), end


def word_of(token):
    """Return the characters of a word that count."""
    if token == END or not all([c in SIGNS for c in token]):
        raise BadForm("a word of letters and digits is missing")
    return token[:MAX_WORD]


def answer(index, question):
    """Return the names that answer the question, in ascending order."""
    return names_of(index, parse(question))


def names_of(index, tree):
    """Return the names that answer a parsed question, in ascending order."""
    kind = tree[0]
    if kind == "word":
        return index.having(tree[1])
    if kind == "begin":
        return index.beginning(tree[1])
    if kind == "row":
        return [name for name in index.names() if has_row(index, tree[1:], name)]
    first = names_of(index, tree[1])
    if kind == "not":
        return [name for name in index.names() if name not in first]
    second = names_of(index, tree[2])
    if kind == "both":
        return [name for name in first if name in second]
    return sorted(set(first + second))


def has_row(index, row, name):
    """Tell whether the words of a row stand one directly after another in the text of a name."""
    places = [index.places(word, name) for word in row]
    return any([all([first + k in places[k] for k in range(len(row))]) for first in places[0]])
