"""A row that is read, item by item, each whole or not at all."""

from foretoldbits.item import NUMBER, PIECE_BITS, PLAIN, SYMBOL
from foretoldbits.model import PLACES
from foretoldbits.row import Row
from foretoldbits.states import FIRST_STATE, LEAST_STATE, WORD, states_in, taken_out, words_in


class WordLacks(Exception):
    """A word is wanted that isn't there."""


class Reader:
    """A row that is read, of bytes that can be."""

    def __init__(self, lanes, numbers, octets):
        self.row = Row(lanes, numbers)
        self.states = states_in(octets, lanes)
        self.words = words_in(octets, lanes)
        self.words_read = 0
        self.stopped = False

    def read(self, numbers):
        """The values of items of these kinds (what and of by turns), up to where a word lacks."""
        values = []
        for what, of in zip(numbers[0::2], numbers[1::2]):
            if self.stopped:
                break
            try:
                values.append(self.read_whole(what, of))
            except WordLacks:
                self.stopped = True
        return values

    def read_whole(self, what, of):
        """The value of one item; where a word lacks the reader stays as it is."""
        attempt = Attempt(self)
        value = attempt.read_item(what, of)
        self.states = attempt.states
        self.words_read = attempt.words_read
        for piece in attempt.pieces:
            self.row.go_by(piece)
        return value

    def is_at_end(self):
        return self.words_read == len(self.words) and all([state == FIRST_STATE for state in self.states])


class Attempt:
    """One item as it is read, on copies: the reader takes them over when the item is whole.

    The models see nothing before that, though a group may end within the item.
    No share hangs on it: an item has one symbol at most, and that comes first.
    """

    def __init__(self, reader):
        self.row = reader.row
        self.states = list(reader.states)
        self.words = reader.words
        self.words_read = reader.words_read
        self.pieces = []

    def read_item(self, what, of):
        if what == PLAIN:
            return self.read_bits(of)
        symbol = self.read_symbol(of)
        if what == NUMBER:
            # The class is the highest bit of value + 1, the bits are those below it.
            return (1 << symbol) + self.read_bits(symbol) - 1
        return symbol

    def read_symbol(self, k):
        symbol = self.row.models[k].symbol_at(self.spot())
        self.take_out((SYMBOL, k, symbol))
        return symbol

    def read_bits(self, bits):
        value = 0
        known = 0
        while known < bits:
            size = min(bits - known, PIECE_BITS)
            part = self.spot() >> (PIECE_BITS - size)
            self.take_out((PLAIN, size, part))
            value = value + (part << known)
            known = known + size
        return value

    def lane(self):
        return (self.row.total + len(self.pieces)) % self.row.lanes

    def spot(self):
        """The place that lies in the share of the plain item that comes now."""
        return self.states[self.lane()] % PLACES

    def take_out(self, piece):
        lane = self.lane()
        share = self.row.piece_share(piece)
        state = taken_out(self.states[lane], share[0], share[1])
        if state < LEAST_STATE:
            state = state * WORD + self.take_word()
        self.states[lane] = state
        self.pieces.append(piece)

    def take_word(self):
        if self.words_read == len(self.words):
            raise WordLacks("no word is left")
        word = self.words[self.words_read]
        self.words_read = self.words_read + 1
        return word
