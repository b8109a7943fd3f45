"""The worth of a table of whole numbers."""


def place_of_head(rows):
    for place, row in enumerate(rows):
        if row[0] != 0:
            return place
    return None


def lessened(row, head, divisor):
    # The division leaves nothing over: what it gives is itself the worth of a part of the table (Bareiss).
    return [(head[0] * row[place] - row[0] * head[place]) // divisor for place in range(1, len(row))]


def worth_of(table):
    rows = [list(row) for row in table]
    sign = 1
    divisor = 1
    while len(rows) > 1:
        place = place_of_head(rows)
        if place is None:
            return 0
        # The head goes up past as many rows as stand above it.
        sign = sign if place % 2 == 0 else -sign
        head = rows[place]
        rows = [lessened(row, head, divisor) for row in rows[:place] + rows[place + 1:]]
        divisor = head[0]
    if len(rows) == 0:
        return 1
    return sign * rows[0][0]
