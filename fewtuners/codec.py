"""Listings as lists of integers from 0 to 255."""

from fewtuners.checks import is_number
from fewtuners.errors import DecodeError
from fewtuners.listings import MOST_LATE, MOST_SENDINGS, Listing, Sending

FIRST_ITEM = 102
LETTERS = "abcdefghijklmnopqrstuvwxyz"
MOST_LETTERS = 8
BASE = 256


def checksum(items):
    """Return the checksum of all items ahead of it."""
    total = 6
    for item in items:
        total = (23 * total + item) % 239
    return total


def word_items(word):
    """Return the list of the items of a word: the number of its letters, and these."""
    return [len(word)] + [LETTERS.index(letter) for letter in word]


def number_items(number, many):
    """Return the list of the items of a number, so many, the greatest first."""
    items = []
    for _ in range(many):
        items.append(number % BASE)
        number = number // BASE
    return items[::-1]


def sending_items(name, sending):
    """Return the list of the items of a sending with a name."""
    words = word_items(name) + word_items(sending.channel) + word_items(sending.show)
    minutes = number_items(sending.begin, 3) + number_items(sending.end, 3)
    return words + number_items(sending.episode, 2) + minutes + [sending.late]


def encode_listing(listing):
    """Return the list of the items of a listing."""
    items = [FIRST_ITEM, len(listing)]
    for name in listing.names:
        items = items + sending_items(name, listing[name])
    return items + [checksum(items)]


class Reader:
    """Reads the items of a list one after another; DecodeError tells where the first wrong one is."""

    def __init__(self, items):
        self._items = tuple(items)
        self._at = 0

    def next_item(self, least, greatest):
        """Return the next item, an integer in a range."""
        if self._at == len(self._items) or not is_number(self._items[self._at], least, greatest):
            raise DecodeError(self._at)
        self._at = self._at + 1
        return self._items[self._at - 1]

    def next_number(self, many):
        """Return the number that so many items make."""
        number = 0
        for _ in range(many):
            number = BASE * number + self.next_item(0, BASE - 1)
        return number

    def next_word(self):
        """Return the next word."""
        many = self.next_item(1, MOST_LETTERS)
        return "".join([LETTERS[self.next_item(0, len(LETTERS) - 1)] for _ in range(many)])

    def next_name(self, ahead):
        """Return the next name, which is greater than the one ahead."""
        begin = self._at
        name = self.next_word()
        if name <= ahead:
            raise DecodeError(begin)
        return name

    def finish(self):
        """Read the checksum, behind which there is nothing."""
        total = checksum(self._items[:self._at])
        self.next_item(total, total)
        if self._at < len(self._items):
            raise DecodeError(self._at)


def read_sending(reader):
    """Return the list of the parts of a sending, from its channel on."""
    words = [reader.next_word(), reader.next_word()]
    numbers = [reader.next_number(2), reader.next_number(3), reader.next_number(3)]
    return words + numbers + [reader.next_item(0, MOST_LATE)]


def decode_listing(values):
    """Return the listing of a list of items."""
    reader = Reader(values)
    reader.next_item(FIRST_ITEM, FIRST_ITEM)
    rows = []
    ahead = ""
    for _ in range(reader.next_item(0, MOST_SENDINGS)):
        ahead = reader.next_name(ahead)
        rows.append((ahead, read_sending(reader)))
    reader.finish()
    return Listing({name: Sending(*parts) for name, parts in rows})
