"""How one text is led into another one that has the same heap."""

from shredjoin.errors import Unlike
from shredjoin.exchanges import deed_done, point_at, points_along
from shredjoin.pieces import counted, pieces_of


def first_unlike(one, other):
    place = 0
    while one[place] == other[place]:
        place = place + 1
    return place


def swap_towards(T, goal, long):
    # Up to a both texts are alike, and behind a they have the same pieces left, so the piece with which the goal
    # goes on stands further on in the text, at c. A point behind c is also one from a to c: else the goal, once it
    # has gone on so, could never come back to the pieces between a and c.
    a = first_unlike(T, goal) - long + 1
    c = T.find(goal[a:a + long], a + 1)
    points = points_along(T, long)
    places = {}
    for place in range(a, c + 1):
        places[points[place]] = place
    d = c + 1
    while points[d] not in places:
        d = d + 1
    return ("swap", a, places[points[d]], c, d)


def deed_towards(T, goal, long):
    begin = point_at(goal, long, 0)
    if point_at(T, long, 0) != begin:
        return ("turn", points_along(T, long).index(begin))
    return swap_towards(T, goal, long)


def led_to(one, other, long):
    if counted(pieces_of(one, long)) != counted(pieces_of(other, long)):
        raise Unlike("the two texts do not have the same heap")
    deeds = []
    text = one
    # Each swap makes at least one more sign alike, and the last sign comes by itself: with the one turn there are
    # at most as many deeds as pieces.
    while text != other:
        deeds.append(deed_towards(text, other, long))
        text = deed_done(text, long, deeds[-1])
    return tuple(deeds)
