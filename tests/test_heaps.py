"""Point 5: what a heap is, its long and its size, the heap of a text."""

import itertools
import unittest

from shredjoin.pieces import is_heap, size_of, tear
from tests.things import OTHER_KINDS, deep_list, long_text, texts_upto


class Heaps(unittest.TestCase):
    def test_heaps(self):
        for thing in (
            (("a", 1),), (("ab", 2), ("ba", 1)), (("a", 1), ("b", 1), ("z", 1)), (("ab", 1), ("cd", 5)),
            (("a" * 300, 1),), (("a" * 299, 1), ("b" * 299, 1)), (("abc", 298),),
        ):
            with self.subTest(thing=thing):
                self.assertIs(is_heap(thing), True)

    def test_the_heap_of_each_text_is_one(self):
        for text in list(texts_upto("ab", 6)) + ["a" * 300, long_text(300)]:
            for long in range(1, len(text) + 1):
                heap = tear(text, long)
                self.assertIs(is_heap(heap), True)
                self.assertEqual(size_of(heap), len(text) - long + 1)

    def test_sizes(self):
        self.assertEqual(size_of((("a", 1),)), 1)
        self.assertEqual(size_of((("ab", 2), ("ba", 1))), 3)
        self.assertEqual(size_of((("a", 150), ("b", 149), ("c", 1))), 300)

    def test_just_as_many_pieces_as_may_be(self):
        for long in (1, 2, 3, 150, 298, 299, 300):
            most = 301 - long
            with self.subTest(long=long):
                self.assertIs(is_heap((("m" * long, most),)), True)
                self.assertIs(is_heap((("m" * long, most + 1),)), False)
                self.assertIs(is_heap((("m" * long, most), ("n" * long, 1))), False)
                if most > 1:
                    self.assertIs(is_heap((("m" * long, most - 1), ("n" * long, 1))), True)
                    self.assertIs(is_heap((("m" * long, 1), ("n" * long, most - 1))), True)
        self.assertIs(is_heap((("a", 10 ** 5000),)), False)

    def test_as_many_unlike_pieces_as_may_be(self):
        pairs = tuple((one + other, 1) for one, other in itertools.product("abcdefghijklmnopqrstuvwxyz", repeat=2))
        self.assertIs(is_heap(pairs[:299]), True)
        self.assertIs(is_heap(pairs[:300]), False)


class Spoilt(unittest.TestCase):
    def refused(self, *things):
        for thing in things:
            with self.subTest(thing=thing):
                self.assertIs(is_heap(thing), False)

    def test_other_kinds(self):
        for thing in OTHER_KINDS:
            self.assertIs(is_heap(thing), False)
            self.assertIs(is_heap((thing,)), False)
            self.assertIs(is_heap((("ab", 1), thing)), False)
            self.assertIs(is_heap(((thing, 1),)), False)
            self.assertIs(is_heap((("ab", thing),)), False)
            self.assertIs(is_heap((("ab", 1), ("ba", thing))), False)
            self.assertIs(is_heap((("ab", 1), (thing, 1))), False)
            self.assertIs(is_heap(((thing, 1), ("ab", 1))), False)
        self.refused("ab", "ab*2 ba")
        self.assertIs(is_heap(deep_list()), False)
        self.assertIs(is_heap((deep_list(),)), False)

    def test_no_tuple(self):
        self.refused([("ab", 1)], {"ab": 1}, {("ab", 1)}, [("ab", 2), ("ba", 1)], {("ab", 1): 1}, "a1")

    def test_none_at_all(self):
        self.refused((), [], {}, "")

    def test_no_pairs(self):
        self.refused(("ab", 1), ("ab",), ("ab", "ba"), (1, 2), (None,), (("ab", 1), "ba"), (("ab", 1), 1), ("a1",))

    def test_a_pair_that_is_no_tuple(self):
        self.refused((["ab", 1],), (("ab", 1), ["ba", 1]), ({"ab": 1, "ba": 2},), (("ab", 1), "b1"))

    def test_a_pair_that_is_not_of_two(self):
        self.refused(((),), (("ab",),), (("ab", 1, 1),), (("ab", 1), ("ba", 1, 1)), (("ab", 1), ("ba",)),
                     (("ab", 1), ()), (("ab", "ba"),), ((1, "ab"),))

    def test_a_piece_that_is_no_text(self):
        self.refused((("", 1),), (("A", 1),), (("a ", 1),), (("a" * 301, 1),), ((1, 1),), ((["a"], 1),), ((("a",), 1),),
                     (("", 1), ("a", 1)), (("ab", 1), ("b~", 1)), (("aB", 1), ("ba", 1)), ((1, 1), (2, 1)))

    def test_unlike_lengths(self):
        self.refused((("a", 1), ("ab", 1)), (("ab", 1), ("b", 1)), (("ab", 1), ("bc", 1), ("c", 1)),
                     (("ab", 1), ("b", 1), ("bc", 1)), (("a", 1), ("bc", 1), ("cd", 1)))

    def test_a_piece_twice(self):
        self.refused((("ab", 1), ("ab", 1)), (("ab", 1), ("ab", 2)), (("ab", 1), ("ba", 1), ("ba", 1)),
                     (("ab", 1), ("ba", 1), ("ab", 1)))

    def test_not_in_order(self):
        self.refused((("ba", 1), ("ab", 1)), (("a", 1), ("c", 1), ("b", 1)), (("b", 1), ("a", 1), ("c", 1)))

    def test_a_many_that_is_none(self):
        for many in (0, -1, -300, True, False, None, 1.0, "1", [1], (1,), 2j, -(10 ** 5000)):
            self.refused((("ab", many),), (("ab", 1), ("ba", many)), (("ab", many), ("ba", 1)),
                         (("ab", 3), ("ba", many), ("bb", 3)))

    def test_a_many_below_nought_does_not_make_room(self):
        self.refused((("a", 301), ("b", -1)), (("a", 300), ("b", 0)))


class AgainstTheWords(unittest.TestCase):
    def test_all_small_tuples_of_pairs(self):
        pieces = ("", "a", "b", "ab", "ba", "A", 1)
        pairs = list(itertools.product(pieces, (0, 1, 2, 299, 300, True)))
        for many in (1, 2):
            for thing in itertools.product(pairs, repeat=many):
                names = [piece for piece, often in thing]
                right = all(name in ("a", "b") for name in names) or all(name in ("ab", "ba") for name in names)
                right = right and names == sorted(set(names))
                right = right and all(often is not True and often > 0 for piece, often in thing)
                right = right and sum(often for piece, often in thing) <= 301 - len(names[0])
                self.assertIs(is_heap(thing), right, thing)


if __name__ == "__main__":
    unittest.main()
