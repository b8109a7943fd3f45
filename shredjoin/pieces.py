"""Texts, the pieces that they are torn into, and heaps of pieces."""

from shredjoin.errors import NoHeap, NoPiece, NoText

LETTERS = "abcdefghijklmnopqrstuvwxyz"
MOST_SIGNS = 300


def is_whole(thing):
    # Python holds True and False for ints, the document does not.
    return isinstance(thing, int) and not isinstance(thing, bool)


def is_long(thing):
    return is_whole(thing) and 1 <= thing <= MOST_SIGNS


def is_text(thing):
    if not isinstance(thing, str) or not is_long(len(thing)):
        return False
    return all([sign in LETTERS for sign in thing])


def most_pieces(long):
    # The longest text has so many: a greater heap could be no text's.
    return MOST_SIGNS + 1 - long


def are_pieces(things):
    if len(things) == 0 or not all([is_text(thing) for thing in things]):
        return False
    return all([len(piece) == len(things[0]) for piece in things])


def are_in_order(pieces):
    # No piece may come twice, so each is less than the next one, never the same.
    return all([pieces[place] < pieces[place + 1] for place in range(len(pieces) - 1)])


def is_pair(thing):
    if not isinstance(thing, tuple) or len(thing) != 2:
        return False
    return is_whole(thing[1]) and thing[1] >= 1


def is_heap(thing):
    if not isinstance(thing, tuple) or not all([is_pair(pair) for pair in thing]):
        return False
    pieces = [pair[0] for pair in thing]
    if not are_pieces(pieces) or not are_in_order(pieces):
        return False
    return size_of(thing) <= most_pieces(long_of(thing))


def long_of(H):
    return len(H[0][0])


def size_of(H):
    return sum([pair[1] for pair in H])


def in_rows(manys):
    return tuple(sorted(manys.items()))


def counted(pieces):
    manys = {}
    for piece in pieces:
        manys[piece] = manys.get(piece, 0) + 1
    return in_rows(manys)


def pieces_of(T, long):
    return [T[place:place + long] for place in range(len(T) - long + 1)]


def tear(T, long):
    if not is_text(T):
        raise NoText("what is to be torn is no text")
    if not is_long(long) or long > len(T):
        raise NoText("the text cannot be torn at this length")
    return counted(pieces_of(T, long))


def heap_of(pieces):
    if not isinstance(pieces, (tuple, list)) or not are_pieces(pieces):
        raise NoHeap("this is no row of texts that are all equally long")
    if len(pieces) > most_pieces(len(pieces[0])):
        raise NoHeap("the row has too many pieces")
    return counted(pieces)


def heaped(one, other):
    if long_of(one) != long_of(other):
        raise NoHeap("the pieces of the two heaps are not equally long")
    if size_of(one) + size_of(other) > most_pieces(long_of(one)):
        raise NoHeap("the two heaps have too many pieces together")
    manys = dict(one)
    for piece, many in other:
        manys[piece] = manys.get(piece, 0) + many
    return in_rows(manys)


def less_one(H, piece):
    manys = dict(H)
    if piece not in manys:
        raise NoPiece("the heap does not have this piece")
    manys[piece] = manys[piece] - 1
    if manys[piece] == 0:
        manys.pop(piece)
    return in_rows(manys)
