"""Bags, which gather pieces of one length."""

from shredjoin.counts import count_of
from shredjoin.errors import NoHeap, NoPiece
from shredjoin.pieces import in_rows, is_long, is_text, is_whole, most_pieces
from shredjoin.verdicts import verdict


class Bag:
    def __init__(self, long):
        if not is_long(long):
            raise NoHeap("a bag is made for a long")
        self.long = long
        self.manys = {}

    def check(self, piece, many):
        if not is_text(piece) or len(piece) != self.long:
            raise NoPiece("this is no text of the bag's long")
        if not is_whole(many) or many < 1:
            raise NoPiece("a piece comes a whole number of times, from 1 on")

    def put(self, piece, many=1):
        self.check(piece, many)
        if sum(self.manys.values()) + many > most_pieces(self.long):
            raise NoHeap("the bag would have too many pieces")
        self.manys[piece] = self.manys.get(piece, 0) + many

    def take(self, piece, many=1):
        self.check(piece, many)
        left = self.manys.get(piece, 0) - many
        if left < 0:
            raise NoPiece("the bag has fewer of this piece")
        self.manys[piece] = left
        if left == 0:
            self.manys.pop(piece)

    def as_heap(self):
        return in_rows(self.manys)

    def full_heap(self):
        if len(self.manys) == 0:
            raise NoHeap("the bag has no pieces")
        return self.as_heap()

    def verdict_now(self):
        return verdict(self.full_heap())

    def texts_now(self):
        return count_of(self.full_heap())
