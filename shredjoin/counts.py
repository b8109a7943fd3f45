"""How many trees and texts a heap has."""

from shredjoin.nets import begin_of, begins_of, end_of, ends_of, outs_of, points_of
from shredjoin.tables import worth_of
from shredjoin.verdicts import has_text


def row_numbers(H, root):
    numbers = {}
    for point in points_of(H):
        if point != root:
            numbers[point] = len(numbers)
    return numbers


def tree_table(H, root):
    numbers = row_numbers(H, root)
    rows = [[0] * len(numbers) for point in numbers]
    for piece, many in H:
        here = numbers.get(begin_of(piece))
        there = numbers.get(end_of(piece))
        if here is not None:
            rows[here][here] += many
            if there is not None:
                rows[here][there] -= many
    return tuple([tuple(row) for row in rows])


def trees_of(H, root):
    # The worth of this table counts the trees (Kirchhoff, Tutte).
    return worth_of(tree_table(H, root))


def factorial(number):
    product = 1
    for factor in range(2, number + 1):
        product = product * factor
    return product


def orders_to(H, end):
    # As many ways along all ties as there are where pieces that are alike are told apart (de Bruijn and others).
    orders = trees_of(H, end) * factorial(outs_of(H, end))
    for point in points_of(H):
        if point != end:
            orders = orders * factorial(outs_of(H, point) - 1)
    return orders


def starts_of(H):
    if not has_text(H):
        return ()
    begins = begins_of(H)
    if len(begins) == 0:
        return points_of(H)
    return (begins[0][0],)


def count_from(H, P):
    if P not in starts_of(H):
        return 0
    ends = ends_of(H)
    end = P if len(ends) == 0 else ends[0][0]
    orders = orders_to(H, end)
    for piece, many in H:
        orders = orders // factorial(many)
    return orders


def count_of(H):
    return sum([count_from(H, point) for point in starts_of(H)])
