"""Point 6: the heap of a row, two heaps heaped together, one piece less."""

import itertools
import unittest

from shredjoin.errors import NoHeap, NoPiece
from shredjoin.pieces import heap_of, heaped, is_heap, less_one, size_of, tear
from tests.things import OTHER_KINDS, deep_list, long_text, texts_upto


class HeapOf(unittest.TestCase):
    def test_tuples_and_lists(self):
        heap = (("ab", 2), ("ba", 1))
        for row in (("ab", "ba", "ab"), ("ba", "ab", "ab"), ("ab", "ab", "ba")):
            self.assertEqual(heap_of(row), heap)
            self.assertEqual(heap_of(list(row)), heap)
        self.assertEqual(heap_of(("z",)), (("z", 1),))
        self.assertEqual(heap_of(["b", "c", "a", "b"]), (("a", 1), ("b", 2), ("c", 1)))

    def test_rows_are_tuples(self):
        for row in (["b", "a"], ("b", "a")):
            heap = heap_of(row)
            self.assertIs(type(heap), tuple)
            self.assertEqual([type(pair) for pair in heap], [tuple, tuple])
            self.assertEqual([type(pair[1]) for pair in heap], [int, int])

    def test_all_small_rows(self):
        for many in (1, 2, 3, 4):
            for row in itertools.product(("aa", "ab", "ba", "zz"), repeat=many):
                heap = heap_of(row)
                self.assertTrue(is_heap(heap))
                self.assertEqual(heap, tuple((piece, row.count(piece)) for piece in sorted(set(row))))
                self.assertEqual(size_of(heap), many)

    def test_the_pieces_of_a_text_in_any_order(self):
        text = "abracadabra"
        row = [text[place:place + 3] for place in range(len(text) - 2)]
        self.assertEqual(heap_of(row), tear(text, 3))
        self.assertEqual(heap_of(tuple(reversed(row))), tear(text, 3))

    def test_empty_rows(self):
        for row in ((), []):
            with self.assertRaises(NoHeap):
                heap_of(row)

    def test_rows_of_other_kinds(self):
        for row in OTHER_KINDS + ("ab", "a", {"ab": 1}, {"ab"}, {"ab": "ab"}, iter(["ab"]), range(2), deep_list()):
            with self.assertRaises(NoHeap):
                heap_of(row)

    def test_a_thing_that_is_no_text(self):
        for thing in OTHER_KINDS + ("", "a" * 301, "aB", "a\n", "a ", ("ab",), ["ab"], ("ab", 1), b"ab"):
            for row in ((thing,), (thing, "ab"), ("ab", thing, "ab"), ("ab", "ab", thing)):
                with self.assertRaises(NoHeap):
                    heap_of(row)
                with self.assertRaises(NoHeap):
                    heap_of(list(row))

    def test_a_piece_of_another_length(self):
        for row in (("ab", "c"), ("c", "ab"), ("ab", "cde", "fg"), ("ab", "cd", "efg"), ("a", "b", "cd"), ("abc", "ab")):
            with self.assertRaises(NoHeap):
                heap_of(row)
            with self.assertRaises(NoHeap):
                heap_of(list(row))

    def test_just_as_many_pieces_as_may_be(self):
        for long in (1, 2, 150, 299, 300):
            most = 301 - long
            self.assertEqual(heap_of(["m" * long] * most), (("m" * long, most),))
            for row in (["m" * long] * (most + 1), ["m" * long] * most + ["n" * long], ["m" * long] * 1000):
                with self.assertRaises(NoHeap):
                    heap_of(row)
                with self.assertRaises(NoHeap):
                    heap_of(tuple(row))

    def test_unlike_pieces_count_too(self):
        row = [one + other for one, other in itertools.product("abcdefghijklmnopqrstuvwxyz", repeat=2)]
        self.assertEqual(heap_of(row[:299]), tuple((piece, 1) for piece in row[:299]))
        with self.assertRaises(NoHeap):
            heap_of(row[:300])


class Heaped(unittest.TestCase):
    def test_each_piece_as_often_as_in_both(self):
        one, other = (("ab", 2), ("ba", 1)), (("aa", 4), ("ab", 3), ("zz", 1))
        both = (("aa", 4), ("ab", 5), ("ba", 1), ("zz", 1))
        self.assertEqual(heaped(one, other), both)
        self.assertEqual(heaped(other, one), both)
        self.assertEqual(heaped(one, one), (("ab", 4), ("ba", 2)))
        self.assertEqual(one, (("ab", 2), ("ba", 1)))

    def test_as_the_heap_of_both_rows(self):
        texts = list(texts_upto("abc", 3))
        for one, other in itertools.product(texts, repeat=2):
            both = heap_of(list(one + other))
            self.assertEqual(heaped(heap_of(list(one)), heap_of(list(other))), both)

    def test_rows_are_tuples(self):
        both = heaped((("b", 1),), (("a", 1),))
        self.assertEqual(both, (("a", 1), ("b", 1)))
        self.assertTrue(is_heap(both))

    def test_unlike_longs(self):
        for one, other in (((("a", 1),), (("ab", 1),)), ((("ab", 1), ("ba", 1)), (("aba", 1),))):
            with self.assertRaises(NoHeap):
                heaped(one, other)
            with self.assertRaises(NoHeap):
                heaped(other, one)

    def test_one_piece_too_many(self):
        for long in (1, 2, 150, 298, 299):
            most = 301 - long
            for name in ("m", "l", "n"):
                one, other = (("m" * long, most - 1),), ((name * long, 1),)
                for pair in ((one, other), (other, one)):
                    both = heaped(*pair)
                    self.assertTrue(is_heap(both))
                    self.assertEqual(size_of(both), most)
                    full = (("m" * long, most),)
                with self.assertRaises(NoHeap):
                    heaped(full, other)
                with self.assertRaises(NoHeap):
                    heaped(other, full)

    def test_one_piece_of_300_signs_is_all_there_may_be(self):
        for other in ("a" * 300, "b" * 300):
            with self.assertRaises(NoHeap):
                heaped((("a" * 300, 1),), ((other, 1),))


class LessOne(unittest.TestCase):
    def test_one_of_many(self):
        heap = (("ab", 2), ("ba", 1))
        self.assertEqual(less_one(heap, "ab"), (("ab", 1), ("ba", 1)))
        self.assertEqual(less_one(heap, "ba"), (("ab", 2),))
        self.assertEqual(heap, (("ab", 2), ("ba", 1)))
        self.assertEqual(less_one((("a", 300),), "a"), (("a", 299),))

    def test_down_to_none(self):
        heap = (("ab", 2), ("ba", 1))
        heap = less_one(heap, "ab")
        heap = less_one(heap, "ab")
        self.assertEqual(heap, (("ba", 1),))
        heap = less_one(heap, "ba")
        self.assertEqual(heap, ())
        self.assertIs(type(heap), tuple)

    def test_piece_by_piece_down_a_text(self):
        text = long_text(40)
        heap = tear(text, 2)
        for place in range(len(text) - 1):
            self.assertTrue(is_heap(heap))
            left = less_one(heap, text[place:place + 2])
            self.assertEqual(size_of(left), size_of(heap) - 1)
            if left:
                self.assertEqual(left, tear(text[place + 1:], 2))
                self.assertEqual(heaped(left, ((text[place:place + 2], 1),)), heap)
            heap = left
        self.assertEqual(heap, ())

    def test_a_piece_that_the_heap_does_not_have(self):
        heap = (("ab", 2), ("ba", 1))
        for piece in ("aa", "bb", "a", "b", "aba", "zz", "a" * 300):
            with self.assertRaises(NoPiece):
                less_one(heap, piece)
        with self.assertRaises(NoPiece):
            less_one(less_one(heap, "ba"), "ba")


if __name__ == "__main__":
    unittest.main()
