"""A row of plain items: its lanes and models, and how it is written."""

from foretoldbits.item import PIECE_BITS, SYMBOL
from foretoldbits.model import new_models
from foretoldbits.states import coded


class Row:
    """The models of a row as its plain items go by, group after group."""

    def __init__(self, lanes, numbers):
        self.lanes = lanes
        self.models = new_models(numbers)
        self.total = 0
        self.waiting = []

    def piece_share(self, piece):
        """Where the plain item's share begins and how many places it has."""
        if piece[0] == SYMBOL:
            return self.models[piece[1]].share(piece[2])
        places = 1 << (PIECE_BITS - piece[1])
        return (piece[2] * places, places)

    def go_by(self, piece):
        """One plain item more; the models stay as they are up to the group's end."""
        self.total = self.total + 1
        if piece[0] == SYMBOL:
            self.waiting.append(piece)
        if self.total % self.lanes == 0:
            self.end_group()

    def end_group(self):
        for piece in self.waiting:
            self.models[piece[1]].see(piece[2])
        self.waiting = []


class Writer:
    """A row that is put."""

    def __init__(self, lanes, numbers):
        self.row = Row(lanes, numbers)
        self.shares = []

    def write(self, pieces):
        for piece in pieces:
            self.shares.append(self.row.piece_share(piece))
            self.row.go_by(piece)

    def row_coded(self):
        return coded(self.shares, self.row.lanes)
