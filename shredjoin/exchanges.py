"""Deeds that change a text and keep its pieces: swaps of two stretches, and turns of a closed text."""

from shredjoin.errors import NoDeed
from shredjoin.pieces import is_whole


def last_place(T, long):
    return len(T) - long + 1


def point_at(T, long, place):
    return T[place:place + long - 1]


def points_along(T, long):
    return [point_at(T, long, place) for place in range(last_place(T, long) + 1)]


def stretch_between(T, long, here, there):
    return T[here + long - 1:there + long - 1]


def is_deed(thing, word, many):
    if not isinstance(thing, tuple) or len(thing) != many + 1:
        return False
    if not isinstance(thing[0], str) or thing[0] != word:
        return False
    return all([is_whole(number) for number in thing[1:]])


def are_places(T, long, numbers):
    bounded = [0] + list(numbers) + [last_place(T, long)]
    return all([bounded[place] <= bounded[place + 1] for place in range(len(bounded) - 1)])


def is_closed(T, long):
    return point_at(T, long, 0) == point_at(T, long, last_place(T, long))


def swap_fits(T, long, places):
    if not are_places(T, long, places):
        return False
    points = [point_at(T, long, place) for place in places]
    return points[0] == points[2] and points[1] == points[3]


def swapped(T, long, places):
    bounds = [(0, places[0]), (places[2], places[3]), (places[1], places[2]), (places[0], places[1])]
    bounds.append((places[3], last_place(T, long)))
    return point_at(T, long, 0) + "".join([stretch_between(T, long, here, there) for here, there in bounds])


def turned(T, long, place):
    behind = stretch_between(T, long, place, last_place(T, long))
    return point_at(T, long, place) + behind + stretch_between(T, long, 0, place)


def deed_done(T, long, deed):
    if is_deed(deed, "swap", 4) and swap_fits(T, long, deed[1:]):
        return swapped(T, long, deed[1:])
    if is_deed(deed, "turn", 1) and are_places(T, long, deed[1:]) and is_closed(T, long):
        return turned(T, long, deed[1])
    raise NoDeed("this is no deed that fits the text")


def last_places(points):
    places = {}
    for place, point in enumerate(points):
        places[point] = place
    return places


def first_of_others(places, sign, otherwise):
    return min([place for other, place in places.items() if other != sign], default=otherwise)


def changing_swap(T, long):
    # A swap that changes the text can always be told so that other signs stand behind a than behind c, and the
    # least a and the greatest b leave the most room: so one look at each c is enough.
    points = points_along(T, long)
    lasts = last_places(points)
    firsts = {}
    middles = []
    for c in range(len(points) - 1):
        sign = T[c + long - 1]
        middles.append(c)
        while len(middles) > 0 and lasts[points[middles[-1]]] <= c:
            middles.pop()
        places = firsts.setdefault(points[c], {})
        a = first_of_others(places, sign, c)
        if len(middles) > 0 and a < middles[-1]:
            return ("swap", a, middles[-1], c, lasts[points[middles[-1]]])
        places.setdefault(sign, c)
    return None


def change_of(T, long):
    # A closed text that the turn by one place leaves as it is has one letter alone.
    if is_closed(T, long) and turned(T, long, 1) != T:
        return ("turn", 1)
    return changing_swap(T, long)


def is_only(T, long):
    return change_of(T, long) is None
