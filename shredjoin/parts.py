"""Which points of a heap hang together."""

from shredjoin.nets import begin_of, end_of, points_of


def tied_points(H):
    tied = {}
    for piece, many in H:
        tied.setdefault(begin_of(piece), []).append(end_of(piece))
        tied.setdefault(end_of(piece), []).append(begin_of(piece))
    return tied


def part_of(H):
    tied = tied_points(H)
    first = begin_of(H[0][0])
    found = {first: True}
    waiting = [first]
    while len(waiting) > 0:
        here = waiting.pop()
        for point in tied[here]:
            if point not in found:
                found[point] = True
                waiting.append(point)
    return tuple(sorted(found))


def hangs(H):
    return len(part_of(H)) == len(points_of(H))
