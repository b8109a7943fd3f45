"""Ways that go along every tie of a row just once."""


def numbers_out(ties):
    numbers = {}
    # Numbers are taken from the back later, so the last tie is put in first.
    for number in range(len(ties) - 1, -1, -1):
        numbers.setdefault(ties[number][0], []).append(number)
    return numbers


def is_way(ties, begin, numbers):
    if len(numbers) != len(ties):
        return False
    point = begin
    for number in numbers:
        if ties[number][0] != point:
            return False
        point = ties[number][2]
    return True


def way_of(ties, begin):
    left = numbers_out(ties)
    gone = []
    backwards = []
    point = begin
    while len(left.get(point, [])) > 0 or len(gone) > 0:
        if len(left.get(point, [])) > 0:
            gone.append(left[point].pop())
            point = ties[gone[-1]][2]
        else:
            # From here no tie is left: rounds that were left out are put in on the way back.
            backwards.append(gone.pop())
            point = ties[backwards[-1]][0]
    numbers = tuple(backwards[::-1])
    if is_way(ties, begin, numbers):
        return numbers
    return None


def text_from(ties, begin):
    numbers = way_of(ties, begin)
    if numbers is None:
        return None
    return begin + "".join([ties[number][1] for number in numbers])
