"""Heaps with lost pieces, filled up to a shortest str that holds what is left."""

from shredjoin.errors import Apart
from shredjoin.nets import begin_of, begins_of, ends_of, ties_of
from shredjoin.parts import hangs
from shredjoin.ways import text_from


def letters_to(one, other):
    for many in range(len(one)):
        if other.startswith(one[many:]):
            return many
    return len(one)


# Pairs each row of a square table with a column, as cheaply as can be (the Hungarian method). The prices show that it
# can't be cheaper: those of a row and a column come together to at most the cost there, and for pairs to just that.
class Pairing:
    def __init__(self, costs):
        self.costs = costs
        self.row_prices = [0] * len(costs)
        self.column_prices = [0] * len(costs)
        self.row_at = [None] * len(costs)
        for row in range(len(costs)):
            self.pair_row(row)

    def pair_row(self, row):
        self.start_search()
        self.look_from(row, None)
        column = self.reach_nearest(row)
        while self.row_at[column] is not None:
            self.look_from(self.row_at[column], column)
            column = self.reach_nearest(row)
        self.pair_back(row, column)

    def start_search(self):
        self.spares = [None] * len(self.costs)
        self.came_from = [None] * len(self.costs)
        self.reached = [False] * len(self.costs)

    def unreached(self):
        return [column for column in range(len(self.costs)) if not self.reached[column]]

    def look_from(self, row, before):
        for column in self.unreached():
            spare = self.costs[row][column] - self.row_prices[row] - self.column_prices[column]
            if self.spares[column] is None or spare < self.spares[column]:
                self.spares[column] = spare
                self.came_from[column] = before

    def reach_nearest(self, row):
        nearest = min(self.unreached(), key=lambda column: self.spares[column])
        self.raise_prices(row, self.spares[nearest])
        self.reached[nearest] = True
        return nearest

    def raise_prices(self, row, step):
        self.row_prices[row] += step
        for column in range(len(self.costs)):
            if self.reached[column]:
                self.row_prices[self.row_at[column]] += step
                self.column_prices[column] -= step
            else:
                self.spares[column] -= step

    def pair_back(self, row, last):
        column = last
        while column is not None:
            before = self.came_from[column]
            self.row_at[column] = row if before is None else self.row_at[before]
            column = before


def spread(rows):
    points = []
    for point, many in rows:
        points.extend([point] * many)
    return points


def cost_table(ends, begins):
    # The row and the column of noughts stand for the end and the begin that stay as they are. They are never paired
    # with one another: no end is a begin, so to leave out one more pair always saves letters.
    rows = [[letters_to(end, begin) for begin in begins] + [0] for end in ends]
    return rows + [[0] * (len(begins) + 1)]


def link(end, begin):
    many = letters_to(end, begin)
    return (end, begin[len(begin) - many:], begin)


def links_of(pairing, ends, begins):
    links = []
    for column, begin in enumerate(begins):
        row = pairing.row_at[column]
        if row < len(ends):
            links.append(link(ends[row], begin))
    return links


def priced(points, prices):
    # The last price is that of the noughts, which stand for no point.
    return tuple(zip(points, prices[:len(points)]))


def filled(H):
    if not hangs(H):
        raise Apart("the heap does not hang together")
    ends = spread(ends_of(H))
    begins = spread(begins_of(H))
    pairing = Pairing(cost_table(ends, begins))
    start = begin_of(H[0][0])
    if len(begins) > 0:
        start = begins[pairing.row_at.index(len(ends))]
    text = text_from(ties_of(H) + links_of(pairing, ends, begins), start)
    return (text, priced(ends, pairing.row_prices), priced(begins, pairing.column_prices))
