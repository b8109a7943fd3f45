"""The net of a heap: its pieces as ties, each from its begin to its end, and the points between which they go."""


def begin_of(piece):
    return piece[:-1]


def end_of(piece):
    return piece[1:]


def ties_of(H):
    ties = []
    for piece, many in H:
        ties.extend([(begin_of(piece), piece[-1], end_of(piece))] * many)
    return ties


def points_of(H):
    return tuple(sorted(set([begin_of(piece) for piece, many in H] + [end_of(piece) for piece, many in H])))


def outs_of(H, P):
    return sum([many for piece, many in H if begin_of(piece) == P])


def ins_of(H, P):
    return sum([many for piece, many in H if end_of(piece) == P])


def nexts_of(H, P):
    # The pieces of a heap are in order, so those with one begin are in the order of their last signs.
    return tuple([(piece[-1], many) for piece, many in H if begin_of(piece) == P])


def more_out(H):
    more = {}
    for piece, many in H:
        more[begin_of(piece)] = more.get(begin_of(piece), 0) + many
        more[end_of(piece)] = more.get(end_of(piece), 0) - many
    return more


def begins_of(H):
    return tuple([(point, more) for point, more in sorted(more_out(H).items()) if more > 0])


def ends_of(H):
    return tuple([(point, -more) for point, more in sorted(more_out(H).items()) if more < 0])


def start_of(H, wish):
    # A closed heap has texts from each of its points, so there any wish can be met.
    begins = begins_of(H)
    if len(begins) == 0:
        return wish
    return begins[0][0]
