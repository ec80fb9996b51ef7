"""Items as they are put or got, and the plain items that they are made of.

A plain item has the form of an item, (what, of, value): a symbol of a model,
or plain bits of which there are PIECE_BITS at most.
"""

SYMBOL = 0
PLAIN = 1
NUMBER = 2

PIECE_BITS = 15
MOST_BITS = 52
MOST_NUMBER_SYMBOLS = 52


def kind_fits(what, of, models):
    """Whether there are items of this kind, whatever their value."""
    if what == PLAIN:
        return 1 <= of <= MOST_BITS
    if what == SYMBOL:
        return of < len(models)
    if what == NUMBER:
        return of < len(models) and models[of].symbols <= MOST_NUMBER_SYMBOLS
    return False


def number_class(value):
    """The place of the highest bit of value + 1."""
    return (value + 1).bit_length() - 1


def value_fits(what, of, value, models):
    """Whether an item of a kind that fits may have this value."""
    if what == PLAIN:
        return value < 1 << of
    symbol = number_class(value) if what == NUMBER else value
    return symbol < models[of].symbols


def item_fits(what, of, value, models):
    return kind_fits(what, of, models) and value_fits(what, of, value, models)


def items_fit(numbers, models):
    """Whether numbers are the what, of and value, by turns, of items that may be."""
    if len(numbers) % 3 != 0:
        return False
    for what, of, value in zip(numbers[0::3], numbers[1::3], numbers[2::3]):
        if not item_fits(what, of, value, models):
            return False
    return True


def kinds_fit(numbers, models):
    """Whether numbers are the what and of, by turns, of items that there are."""
    if len(numbers) % 2 != 0:
        return False
    return all([kind_fits(what, of, models) for what, of in zip(numbers[0::2], numbers[1::2])])


def bit_pieces(bits, value):
    """The lowest so many bits of value as plain items; no bits are none."""
    pieces = []
    while bits > 0:
        size = min(bits, PIECE_BITS)
        pieces.append((PLAIN, size, value & ((1 << size) - 1)))
        value = value >> size
        bits = bits - size
    return pieces


def item_pieces(what, of, value):
    """The plain items of one item that fits."""
    if what == SYMBOL:
        return [(SYMBOL, of, value)]
    if what == PLAIN:
        return bit_pieces(of, value)
    symbol = number_class(value)
    # The class tells the highest bit of value + 1, so only the bits below it are left to tell.
    return [(SYMBOL, of, symbol)] + bit_pieces(symbol, value + 1)


def all_pieces(numbers):
    """The plain items of all items, in order."""
    pieces = []
    for what, of, value in zip(numbers[0::3], numbers[1::3], numbers[2::3]):
        pieces.extend(item_pieces(what, of, value))
    return pieces
