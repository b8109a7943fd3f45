"""Point 13: the worth of a table."""

import itertools
import unittest

from shredjoin.tables import worth_of
from tests.things import drawn_numbers


def sum_of_products(table):
    """By the words of the point: all ways of taking one number out of each row."""
    total = 0
    for columns in itertools.permutations(range(len(table))):
        pairs = sum(one > other for one, other in itertools.combinations(columns, 2))
        product = -1 if pairs % 2 else 1
        for row, column in zip(table, columns):
            product *= row[column]
        total += product
    return total


def drawn_table(seed, rows, least, most):
    numbers = drawn_numbers(seed)
    span = most - least + 1

    def one():
        number = 0
        for time in range(8):
            number = number * 2 ** 31 + next(numbers)
        return least + number % span

    return tuple(tuple(one() for column in range(rows)) for row in range(rows))


def multiplied(one, other):
    places = range(len(one))
    return tuple(tuple(sum(one[i][k] * other[k][j] for k in places) for j in places) for i in places)


GREAT = 10 ** 60 - 1


class Worth(unittest.TestCase):
    def judged(self, table, worth):
        told = worth_of(table)
        self.assertEqual(told, worth)
        self.assertIs(type(told), int)

    def test_no_rows(self):
        self.judged((), 1)

    def test_one_number(self):
        for number in (0, 1, -1, 7, GREAT, -GREAT):
            self.judged(((number,),), number)

    def test_two_rows(self):
        for a, b, c, d in itertools.product((-2, -1, 0, 1, 3), repeat=4):
            self.judged(((a, b), (c, d)), a * d - b * c)
        self.judged(((GREAT, -GREAT), (GREAT, GREAT)), 2 * GREAT ** 2)

    def test_noughts_in_the_line(self):
        self.judged(((0, 1), (1, 0)), -1)
        self.judged(((0, 2, 3), (4, 5, 6), (7, 8, 10)), sum_of_products(((0, 2, 3), (4, 5, 6), (7, 8, 10))))
        self.judged(((0, 0, 1), (0, 1, 0), (1, 0, 0)), -1)
        self.judged(((0, 1, 0), (0, 0, 1), (1, 0, 0)), 1)
        self.judged(((1, 2, 3), (2, 4, 5), (3, 5, 6)), -1)
        self.judged(((0, 1, 2), (0, 3, 4), (0, 5, 6)), 0)

    def test_rows_alike_and_rows_of_noughts(self):
        self.judged(((1, 2, 3), (4, 5, 6), (1, 2, 3)), 0)
        self.judged(((1, 2, 3), (0, 0, 0), (7, 8, 10)), 0)
        self.judged(((0, 0), (0, 0)), 0)
        self.judged(((2, 4, 6), (1, 2, 3), (5, 5, 5)), 0)
        for seed in range(5):
            table = drawn_table(seed, 7, -50, 50)
            self.judged(table[:4] + (table[2],) + table[5:], 0)
            self.judged(table[:4] + ((0,) * 7,) + table[5:], 0)

    def test_the_sign_when_two_rows_are_exchanged(self):
        table = drawn_table(3, 6, -9, 9)
        worth = sum_of_products(table)
        self.assertNotEqual(worth, 0)
        for one, other in itertools.combinations(range(6), 2):
            rows = list(table)
            rows[one], rows[other] = rows[other], rows[one]
            self.judged(tuple(rows), -worth)

    def test_all_tables_of_three_rows_of_small_numbers(self):
        for numbers in itertools.product((-1, 0, 1), repeat=9):
            table = (numbers[:3], numbers[3:6], numbers[6:])
            self.judged(table, sum_of_products(table))

    def test_drawn_tables_against_the_sum(self):
        for seed in range(60):
            for rows in (3, 4, 5):
                for least, most in ((-1, 1), (0, 3), (-9, 9), (-GREAT, GREAT)):
                    table = drawn_table(seed, rows, least, most)
                    self.judged(table, sum_of_products(table))

    def test_numbers_of_60_figures(self):
        self.judged(tuple(tuple(GREAT * (-1) ** (i * j) for j in range(4)) for i in range(4)),
                    GREAT ** 4 * sum_of_products(tuple(tuple((-1) ** (i * j) for j in range(4)) for i in range(4))))
        table = drawn_table(8, 8, -GREAT, GREAT)
        self.judged(table, sum_of_products(table))

    def test_60_rows(self):
        line = tuple(tuple(GREAT - i if i == j else 0 for j in range(60)) for i in range(60))
        worth = 1
        for i in range(60):
            worth *= GREAT - i
        self.judged(line, worth)
        self.judged(line[::-1], worth)
        self.judged(line[1:] + line[:1], -worth)
        least = tuple(tuple(min(i, j) + 1 for j in range(60)) for i in range(60))
        self.judged(least, 1)

    def test_60_rows_of_60_figures(self):
        below = drawn_table(1, 60, -10 ** 29, 10 ** 29)
        above = drawn_table(2, 60, -10 ** 29, 10 ** 29)
        below = tuple(tuple(below[i][j] if j < i else int(i == j) for j in range(60)) for i in range(60))
        above = tuple(tuple(above[i][j] if j >= i else 0 for j in range(60)) for i in range(60))
        table = multiplied(below, above)
        self.assertTrue(10 ** 58 < max(abs(number) for row in table for number in row) < 10 ** 60)
        worth = 1
        for i in range(60):
            worth *= above[i][i]
        self.judged(table, worth)
        full = drawn_table(4, 60, -GREAT, GREAT)
        self.assertEqual(worth_of(full[1:] + full[:1]), -worth_of(full))

    def test_somewhat_more_than_60_rows(self):
        self.judged(tuple(tuple(min(i, j) + 1 for j in range(70)) for i in range(70)), 1)
        self.judged(((10 ** 80, 1), (1, 10 ** 80)), 10 ** 160 - 1)

    def test_the_table_stays_as_it_was(self):
        table = drawn_table(6, 4, -9, 9)
        again = drawn_table(6, 4, -9, 9)
        worth_of(table)
        self.assertEqual(table, again)


if __name__ == "__main__":
    unittest.main()
