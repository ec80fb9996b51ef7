"""The coder: its calls, and how a list of them is answered."""

from foretoldbits.item import all_pieces, items_fit, kinds_fit
from foretoldbits.model import models_fit
from foretoldbits.reader import Reader
from foretoldbits.row import Writer
from foretoldbits.states import fault_place

BEGIN = 0
PUT = 1
END = 2
OPEN = 3
GET = 4
DONE = 5
MODEL = 6

MISSHAPEN = -1
NOT_NOW = -4
TOO_MANY = -7
UNREADABLE = -8

NOT_AT_END = 0
AT_END = 1
PUTTING = 2
IDLE = 3

LANES = (1, 4, 8, 16)
MOST_PIECES = 1000
MOST_BYTES = 4000


class UnknownCall(ValueError):
    """A call by a number that no call has."""


class Coder:
    """It puts while it has a writer, reads while it has a reader, else it's idle.

    Each call gives back its answer as a list. It checks all ahead of changing
    anything, so that a refusal changes nothing.
    """

    def __init__(self):
        self.writer = None
        self.reader = None

    def begin(self, lanes, models):
        if not row_fits(lanes, models):
            return [MISSHAPEN]
        self.writer = Writer(lanes, models)
        self.reader = None
        return [0]

    def put(self, numbers):
        if self.writer is None:
            return [NOT_NOW]
        row = self.writer.row
        if not items_fit(numbers, row.models):
            return [MISSHAPEN]
        pieces = all_pieces(numbers)
        if row.total + len(pieces) > MOST_PIECES:
            return [TOO_MANY]
        self.writer.write(pieces)
        return [row.total]

    def end(self):
        if self.writer is None:
            return [NOT_NOW]
        octets = self.writer.row_coded()
        self.writer = None
        return told_list(octets)

    def open_row(self, lanes, models, octets):
        if not row_fits(lanes, models) or len(octets) > MOST_BYTES:
            return [MISSHAPEN]
        place = fault_place(octets, lanes)
        if place is not None:
            return [UNREADABLE, place]
        self.writer = None
        self.reader = Reader(lanes, models, octets)
        return [0]

    def get(self, numbers):
        if self.reader is None:
            return [NOT_NOW]
        if not kinds_fit(numbers, self.reader.row.models):
            return [MISSHAPEN]
        return told_list(self.reader.read(numbers))

    def done(self):
        if self.writer is not None:
            return [PUTTING]
        if self.reader is None:
            return [IDLE]
        return [AT_END if self.reader.is_at_end() else NOT_AT_END]

    def model(self, k):
        models = self.models_now()
        if models is None:
            return [NOT_NOW]
        if k >= len(models):
            return [MISSHAPEN]
        return told_list(models[k].begins)

    def models_now(self):
        """The models of the row that is put or read, None if there is none."""
        if self.writer is not None:
            return self.writer.row.models
        if self.reader is not None:
            return self.reader.row.models
        return None


def told_list(numbers):
    """The answer that tells a list: a 0, how many numbers it has, and these."""
    return [0, len(numbers)] + numbers


def row_fits(lanes, models):
    return lanes in LANES and models_fit(models)


class Walk:
    """Goes through a list of calls, number by number and row by row."""

    def __init__(self, numbers):
        self.numbers = numbers
        self.place = 0

    def is_over(self):
        return self.place >= len(self.numbers)

    def take_number(self):
        number = self.numbers[self.place]
        self.place = self.place + 1
        return number

    def take_row(self):
        size = self.take_number()
        start = self.place
        self.place = start + size
        return self.numbers[start:self.place]


def answer_one(coder, walk):
    """Takes one call from the walk and gives back its answer."""
    call = walk.take_number()
    if call == BEGIN:
        lanes = walk.take_number()
        return coder.begin(lanes, walk.take_row())
    if call == PUT:
        return coder.put(walk.take_row())
    if call == END:
        return coder.end()
    if call == OPEN:
        lanes = walk.take_number()
        models = walk.take_row()
        return coder.open_row(lanes, models, walk.take_row())
    if call == GET:
        return coder.get(walk.take_row())
    if call == DONE:
        return coder.done()
    if call == MODEL:
        return coder.model(walk.take_number())
    raise UnknownCall(f"no call has the number {call}")


def answers(calls):
    """The answers to all calls on a new coder, each behind how many numbers it has."""
    coder = Coder()
    walk = Walk(calls)
    answered = []
    while not walk.is_over():
        answer = answer_one(coder, walk)
        answered.append(len(answer))
        answered.extend(answer)
    return answered
