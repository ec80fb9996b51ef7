"""States and words: how a row's shares become bytes, and which bytes can be read."""

from foretoldbits.model import PLACES

FIRST_STATE = 65536
LEAST_STATE = 65536
WORD = 65536
FULL = 131072
STATE_BYTES = 4
WORD_BYTES = 2


def coded(shares, lanes):
    """The bytes of a row, by the shares (beginning, places) of its plain items."""
    states = [FIRST_STATE] * lanes
    words = []
    # The last item goes in first, for what went in last comes out first.
    for j in range(len(shares) - 1, -1, -1):
        lane = j % lanes
        begin = shares[j][0]
        places = shares[j][1]
        if is_full(states[lane], places):
            words.append(states[lane] % WORD)
            states[lane] = states[lane] // WORD
        states[lane] = states[lane] // places * PLACES + states[lane] % places + begin
    return row_bytes(states, words)


def taken_out(state, begin, places):
    """What the state was ahead of a share that went in, but for a word that went out then."""
    return places * (state // PLACES) + state % PLACES - begin


def is_full(state, places):
    """Whether a share of so many places would bring the state beyond four bytes."""
    return state >= places * FULL


def row_bytes(states, words):
    octets = []
    for state in states:
        octets.extend(low_first(state, STATE_BYTES))
    for word in reversed(words):
        octets.extend(low_first(word, WORD_BYTES))
    return octets


def low_first(number, size):
    """The number as so many bytes, the lowest first."""
    return [(number >> (8 * k)) & 255 for k in range(size)]


def from_low_first(octets):
    number = 0
    for octet in reversed(octets):
        number = number * 256 + octet
    return number


def numbers_of_size(octets, size):
    """The numbers that the bytes tell, so many bytes each."""
    return [from_low_first(octets[at:at + size]) for at in range(0, len(octets), size)]


def states_in(octets, lanes):
    return numbers_of_size(octets[:STATE_BYTES * lanes], STATE_BYTES)


def words_in(octets, lanes):
    return numbers_of_size(octets[STATE_BYTES * lanes:], WORD_BYTES)


def fault_place(octets, lanes):
    """The place for which the bytes can't be read, None if they can."""
    if len(octets) < STATE_BYTES * lanes:
        return len(octets)
    for lane, state in enumerate(states_in(octets, lanes)):
        if state < LEAST_STATE:
            return STATE_BYTES * lane
    if len(octets) % 2 == 1:
        return len(octets) - 1
    return None
