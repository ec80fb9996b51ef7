"""Models: where each symbol's share begins, and how that adapts to what is seen."""

PLACES = 32768
MOST_SEEN = 65535
MOST_MODELS = 16
FEWEST_SYMBOLS = 2
MOST_SYMBOLS = 64
LEAST_SLOWNESS = 2
MOST_SLOWNESS = 9


class Model:
    """Shares of all places, one for each symbol, never without a place."""

    def __init__(self, symbols, slowness):
        self.symbols = symbols
        self.slowness = slowness
        self.seen = 0
        self.begins = [PLACES * i // symbols for i in range(symbols)]

    def share(self, symbol):
        """Where the symbol's share begins and how many places it has."""
        begin = self.begins[symbol]
        behind = self.begins[symbol + 1] if symbol + 1 < self.symbols else PLACES
        return (begin, behind - begin)

    def symbol_at(self, place):
        """The symbol in whose share the place lies."""
        symbol = 0
        behind = self.symbols
        while behind - symbol > 1:
            middle = (symbol + behind) // 2
            if self.begins[middle] <= place:
                symbol = middle
            else:
                behind = middle
        return symbol

    def rate(self):
        # The bit length is 1 + the place of the highest bit.
        return min((self.seen + 2).bit_length(), self.slowness)

    def see(self, symbol):
        """Draws all beginnings towards those that leave this symbol the most."""
        rate = self.rate()
        kept = (1 << rate) - 1
        for i in range(1, self.symbols):
            # Neighbours' targets differ by one at least: that keeps every share from becoming empty.
            target = i if i <= symbol else PLACES - (self.symbols - i)
            self.begins[i] = (self.begins[i] * kept + target) >> rate
        self.seen = min(self.seen + 1, MOST_SEEN)


def model_fits(symbols, slowness):
    return FEWEST_SYMBOLS <= symbols <= MOST_SYMBOLS and LEAST_SLOWNESS <= slowness <= MOST_SLOWNESS


def models_fit(numbers):
    """Whether numbers are the n and slowness, by turns, of as many models as may be."""
    if len(numbers) == 0 or len(numbers) % 2 == 1 or len(numbers) > 2 * MOST_MODELS:
        return False
    return all([model_fits(symbols, slowness) for symbols, slowness in zip(numbers[0::2], numbers[1::2])])


def new_models(numbers):
    return [Model(symbols, slowness) for symbols, slowness in zip(numbers[0::2], numbers[1::2])]
