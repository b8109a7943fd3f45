"""The texts of a heap by their numbers."""

from shredjoin.counts import count_from, count_of
from shredjoin.errors import NoNumber
from shredjoin.nets import begin_of, end_of, nexts_of, points_of
from shredjoin.pieces import counted, is_whole, less_one, pieces_of


def count_on(H, point):
    # Where no piece is left, the text is at its end, and that is one way of going on.
    if H == ():
        return 1
    return count_from(H, point)


def counts_by_sign(H, point):
    counts = []
    for sign, many in nexts_of(H, point):
        piece = point + sign
        counts.append((sign, count_on(less_one(H, piece), end_of(piece))))
    return counts


def counts_by_point(H):
    return [(point, count_from(H, point)) for point in points_of(H)]


def picked(counts, number):
    left = number
    for choice, many in counts:
        if left < many:
            return (choice, left)
        left = left - many
    return None


def text_at(H, number):
    if not is_whole(number) or not 0 <= number < count_of(H):
        raise NoNumber("no text of the heap has this number")
    choice = picked(counts_by_point(H), number)
    text = choice[0]
    point = choice[0]
    rest = H
    while rest != ():
        choice = picked(counts_by_sign(rest, point), choice[1])
        piece = point + choice[0]
        text = text + choice[0]
        rest = less_one(rest, piece)
        point = end_of(piece)
    return text


def count_ahead(counts, chosen):
    return sum([many for choice, many in counts if choice < chosen])


def number_of(T, long):
    pieces = pieces_of(T, long)
    rest = counted(pieces)
    number = count_ahead(counts_by_point(rest), T[:long - 1])
    for piece in pieces:
        number = number + count_ahead(counts_by_sign(rest, begin_of(piece)), piece[-1])
        rest = less_one(rest, piece)
    return number
