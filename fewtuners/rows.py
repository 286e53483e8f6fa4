"""Rows of words that are separated by single blanks, as books, listings and daybooks have them."""

from fewtuners.checks import is_word
from fewtuners.errors import InvalidRow

MOST_DIGITS = 7

# A letter for each word behind the first one: w for a word, a for one that is greater than the one in the last such row
# (names ascend), n for a number.
SHAPES = {
    "rule": "wnnnnn",
    "seen": "wn",
    "sending": "awwnnnn",
    "recorder": "n",
    "add": "wwwnnnn",
    "drop": "w",
    "wish": "wnnnnn",
    "unwish": "n",
    "watch": "wn",
    "run": "n",
    "undo": "",
    "plan": "",
    "lost": "",
    "recorded": "",
}


def rows_of(text):
    """Return the list of the rows of a text; an empty text has none."""
    return text.split("\n") if text else []


def is_numeral(word):
    """Return whether a word is 0, or up to seven digits that do not begin with 0."""
    if not 1 <= len(word) <= MOST_DIGITS or not all(["0" <= sign <= "9" for sign in word]):
        return False
    return word == "0" or word[0] != "0"


def fits(word, kind, ahead):
    """Return whether a word is what a letter of a shape asks for, behind a name."""
    if kind == "n":
        return is_numeral(word)
    return is_word(word) and (kind == "w" or word > ahead)


def wrong_place(words, firsts, ahead):
    """Return the index of the first word of a row that is wrong, superfluous or missing, or None."""
    if words[0] not in firsts:
        return 0
    shape = SHAPES[words[0]]
    for at, kind in enumerate(shape, start=1):
        if at == len(words) or not fits(words[at], kind, ahead):
            return at
    return None if len(words) == 1 + len(shape) else 1 + len(shape)


def read_row(row, at, firsts, ahead=""):
    """Return the list of the words of a row, its numerals as numbers.

    Its first word is one of some, and its name greater than the one ahead; InvalidRow has the index of the row.
    """
    words = row.split(" ")
    wrong = wrong_place(words, firsts, ahead)
    if wrong is not None:
        raise InvalidRow(at, wrong)
    return [int(word) if is_numeral(word) else word for word in words]
