"""Point 11: ways that go along all ties of a row."""

import copy
import itertools
import unittest

from shredjoin.ways import way_of
from tests.things import drawn_numbers


def is_right(ties, begin, way):
    if sorted(way) != list(range(len(ties))):
        return False
    at = [begin] + [ties[number][2] for number in way]
    return all(ties[number][0] == point for number, point in zip(way, at))


def has_way(ties, begin):
    """Gone through one by one."""
    return any(is_right(ties, begin, order) for order in itertools.permutations(range(len(ties))))


class Ways(unittest.TestCase):
    def found(self, ties, begin):
        way = way_of(ties, begin)
        self.assertIs(type(way), tuple)
        self.assertTrue(is_right(ties, begin, way), (ties, begin, way))
        self.assertEqual({type(number) for number in way} - {int}, set())
        return way

    def test_tuples_and_lists(self):
        ties = (("a", "x", "b"), ("b", "y", "c"), ("c", "", "a"))
        self.assertEqual(way_of(ties, "a"), (0, 1, 2))
        self.assertEqual(way_of(list(ties), "a"), (0, 1, 2))
        self.assertEqual(way_of(ties, "b"), (1, 2, 0))
        self.assertEqual(way_of(ties[::-1], "a"), (2, 1, 0))

    def test_a_list_stays_as_it_was(self):
        for ties in ([("a", "x", "b"), ("b", "y", "a"), ("a", "z", "a")], [("b", "x", "a"), ("c", "", "c")], []):
            before = copy.deepcopy(ties)
            way_of(ties, "a")
            self.assertEqual(ties, before)

    def test_no_ties(self):
        for begin in ("", "a", "zzz", "a" * 400):
            self.assertEqual(way_of((), begin), ())
            self.assertEqual(way_of([], begin), ())

    def test_one_tie(self):
        self.assertEqual(way_of((("a", "b", "c"),), "a"), (0,))
        self.assertIsNone(way_of((("a", "b", "c"),), "c"))
        self.assertIsNone(way_of((("a", "b", "c"),), ""))
        self.assertEqual(way_of((("", "", ""),), ""), (0,))

    def test_rounds_that_were_left_out(self):
        ties = (("a", "", "b"), ("b", "", "z"), ("b", "", "c"), ("c", "", "d"), ("d", "", "b"), ("d", "", "e"),
                ("e", "", "d"))
        self.found(ties, "a")
        for order in itertools.permutations(ties):
            self.found(order, "a")

    def test_rounds_within_rounds(self):
        ties = []
        for depth in range(80):
            here, there = "a" * depth, "a" * (depth + 1)
            ties += [(here, "x", there), (there, "y", here), (here, "z", here)]
        self.found(ties, "")
        self.found(ties[::-1], "")
        self.found(ties, "a" * 40)

    def test_ties_alike(self):
        self.found((("a", "x", "a"),) * 5, "a")
        self.found((("a", "x", "b"), ("b", "y", "a")) * 6, "b")
        self.found((("a", "x", "b"),) * 3 + (("b", "y", "a"),) * 2, "a")
        self.assertIsNone(way_of((("a", "x", "b"),) * 2, "a"))

    def test_points_without_signs_and_of_400(self):
        great, other = "q" * 400, "q" * 399 + "r"
        ties = (("", "s" * 400, great), (great, "", other), (other, "t", ""), ("", "", ""))
        self.found(ties, "")
        self.found(ties, great)
        self.assertIsNone(way_of(ties[:2], "q" * 399))
        self.assertIsNone(way_of(((great, "", great), (other, "", other)), great))

    def test_points_of_unlike_lengths(self):
        self.found((("a", "", "aa"), ("aa", "", "")), "a")
        self.assertIsNone(way_of((("a", "", "aa"), ("a", "", "")), "a"))

    def test_400_ties(self):
        names = ["p" * number for number in range(400)]
        chain = [(names[k], "s", names[(k + 1) % 400]) for k in range(400)]
        self.assertEqual(self.found(chain, names[7]), tuple(range(7, 400)) + tuple(range(7)))
        self.found([("", "s", "")] * 400, "")
        numbers, ties, point = drawn_numbers(5), [], "a"
        for step in range(400):
            there = "abcdefg"[next(numbers) % 7]
            ties.append((point, "", there))
            point = there
        for step in range(20):
            spin = next(numbers) % 400
            self.found(sorted(ties[spin:]) + ties[:spin], "a")
        self.assertIsNone(way_of(ties[1:] + [("z", "", "z")], "a"))

    def test_somewhat_more_than_400_ties(self):
        self.found([("b" * 450, "s", "b" * 450)] * 1000, "b" * 450)

    def test_a_begin_that_is_wrong(self):
        ties = (("a", "", "b"), ("b", "", "c"))
        self.assertEqual([way_of(ties, begin) for begin in ("b", "c", "d", "")], [None] * 4)
        self.assertIsNone(way_of((("a", "", "b"), ("b", "", "a"), ("b", "", "b")), "c"))

    def test_ties_that_go_round_apart(self):
        self.assertIsNone(way_of((("a", "", "a"), ("b", "", "b")), "a"))
        self.assertIsNone(way_of((("a", "", "b"), ("c", "", "d"), ("d", "", "c")), "a"))
        self.assertIsNone(way_of((("a", "", "b"), ("b", "", "a"), ("c", "", "c"), ("c", "", "c")), "b"))

    def test_too_many_that_go_out(self):
        self.assertIsNone(way_of((("a", "", "b"), ("a", "", "c")), "a"))
        self.assertIsNone(way_of((("a", "", "b"), ("a", "", "b"), ("a", "", "b"), ("b", "", "a")), "a"))
        self.assertIsNone(way_of((("a", "", "b"), ("b", "", "c"), ("b", "", "d"), ("d", "", "e")), "a"))

    def test_against_all_orders(self):
        ends = [pair for pair in itertools.product("abc", repeat=2)]
        for many in (1, 2, 3, 4):
            for chosen in itertools.combinations_with_replacement(ends, many):
                ties = [(here, "s", there) for here, there in chosen]
                for begin in "abc":
                    if has_way(ties, begin):
                        self.found(ties, begin)
                    else:
                        self.assertIsNone(way_of(ties, begin))

    def test_the_same_each_time(self):
        ties = [(here, "", there) for here in "abcd" for there in "abcd"]
        way = self.found(ties, "a")
        self.found(ties[:5] + ties[5:], "b")
        self.assertEqual(way_of(tuple(ties), "a"), way)


if __name__ == "__main__":
    unittest.main()
