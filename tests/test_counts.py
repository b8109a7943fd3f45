"""Points 14 and 15: the trees of a heap, and how many texts it has."""

import itertools
import math
import unittest

from shredjoin.counts import count_from, count_of, trees_of
from shredjoin.nets import begins_of, ends_of, outs_of, points_of
from shredjoin.pieces import tear
from tests.things import drawn_text, row_of_pieces, some_heaps, texts_of, texts_upto


def trees_one_by_one(heap, root):
    row, points = row_of_pieces(heap), points_of(heap)
    others = [point for point in points if point != root]
    found = 0
    for chosen in itertools.product(*[[piece for piece in row if piece[:-1] == point] for point in others]):
        goes_to = {piece[:-1]: piece[1:] for piece in chosen}
        at = dict(zip(points, points))
        for step in points:
            at = {point: goes_to.get(here, here) for point, here in at.items()}
        found += all(here == root for here in at.values())
    return found


def drawn_heaps():
    """Heaps of up to 12 points and 30 pieces."""
    for seed in range(12):
        yield tear(drawn_text(seed, 12, "abcd"), 2)
        yield tear(drawn_text(seed, 11, "ab"), 3)
        yield tear(drawn_text(seed, 9, "abc"), 1)


class Trees(unittest.TestCase):
    def test_one_point(self):
        for heap in ((("a", 1),), (("a", 2), ("b", 28)), (("a" * 30, 1),), (("aa", 30),)):
            self.assertEqual(trees_of(heap, points_of(heap)[0]), 1)

    def test_a_point_with_no_tie_that_goes_out(self):
        self.assertEqual(trees_of((("ab", 1),), "a"), 0)
        self.assertEqual(trees_of((("ab", 1),), "b"), 1)
        self.assertEqual(trees_of((("ab", 1), ("ac", 1)), "b"), 0)
        self.assertEqual(trees_of((("ab", 1), ("ac", 1), ("bb", 5)), "c"), 0)

    def test_a_piece_that_comes_many_times(self):
        self.assertEqual(trees_of((("ab", 7),), "b"), 7)
        self.assertEqual(trees_of((("ab", 7), ("bc", 4)), "c"), 28)
        self.assertEqual(trees_of((("ab", 2), ("ac", 3), ("bc", 5)), "c"), 25)
        self.assertEqual(trees_of((("aa", 9), ("ab", 2)), "b"), 2)

    def test_every_root_against_the_choices_one_by_one(self):
        for heap in itertools.chain(some_heaps(), drawn_heaps()):
            for root in points_of(heap):
                trees = trees_of(heap, root)
                self.assertEqual(trees, trees_one_by_one(heap, root))
                self.assertIs(type(trees), int)

    def test_12_points_that_are_all_tied(self):
        letters = "abcdef"
        heap = tuple((one + other, 1) for one in letters for other in letters if one != other)
        for root in letters:
            self.assertEqual(trees_of(heap, root), 6 ** 4)
        ring = tuple((one + other, 2) for one, other in zip("abcdefghijkl", "bcdefghijkla"))
        self.assertEqual(trees_of(tuple(sorted(ring)), "e"), 2 ** 11)


class Counts(unittest.TestCase):
    def test_none(self):
        for heap in ((("ab", 2),), (("aa", 1), ("bb", 1)), (("ab", 1), ("cd", 1)), (("ab", 1), ("cc", 1))):
            self.assertEqual(count_of(heap), 0)
            for point in points_of(heap):
                self.assertEqual(count_from(heap, point), 0)

    def test_one(self):
        for heap in ((("ab", 2), ("ba", 1)), (("a", 30),), (("aa", 29),), (("abc", 1),), (("a" * 30, 1),)):
            self.assertEqual(count_of(heap), 1)

    def test_several(self):
        self.assertEqual(count_of((("ab", 1), ("ba", 1))), 2)
        self.assertEqual(count_of((("aa", 1), ("ab", 2), ("ba", 1))), 2)
        self.assertEqual(count_of((("ab", 2), ("ac", 1), ("ba", 2), ("ca", 1))), 6)

    def test_closed_heaps_have_some_from_each_point(self):
        heap = tear("abcbda", 2)
        counts = [count_from(heap, point) for point in "abcd"]
        self.assertEqual(counts, [sum(text[0] == point for text in texts_of(heap)) for point in "abcd"])
        self.assertTrue(min(counts) > 0)
        self.assertEqual(count_of(heap), sum(counts))

    def test_signs_that_are_no_point(self):
        self.assertEqual(count_from((("ab", 1), ("ba", 1)), "z"), 0)
        self.assertEqual(count_from((("abc", 1), ("bca", 1)), "ca"), 0)
        self.assertEqual(count_from((("abc", 1), ("bca", 1)), "zz"), 0)
        self.assertEqual(count_from(tear("abcab", 3), "ba"), 0)

    def test_a_point_that_is_not_the_begin(self):
        heap = tear("aabc", 2)
        self.assertEqual([count_from(heap, point) for point in "abc"], [1, 0, 0])

    def test_unlike_letters_as_a_heap_of_long_1(self):
        for many in range(1, 13):
            heap = tuple((letter, 1) for letter in "abcdefghijkl"[:many])
            self.assertEqual(count_of(heap), math.factorial(many))
            self.assertEqual(count_from(heap, ""), math.factorial(many))
        self.assertEqual(count_of((("a", 10), ("b", 20))), math.comb(30, 10))
        self.assertEqual(count_of(tear("abcdefghijklmnopqrstuvwxyz", 1)), math.factorial(26))

    def test_against_all_texts_one_by_one(self):
        for heap in itertools.chain(some_heaps(), drawn_heaps()):
            texts, long = texts_of(heap), len(heap[0][0])
            self.assertEqual(count_of(heap), len(texts))
            self.assertIs(type(count_of(heap)), int)
            for point in points_of(heap):
                count = count_from(heap, point)
                self.assertEqual(count, sum(text[:long - 1] == point for text in texts))
                self.assertIs(type(count), int)

    def test_the_rule_of_trees_and_factorials(self):
        texts = list(texts_upto("ab", 6)) + [drawn_text(seed, 31, "abcdefghijkl") for seed in range(30)]
        for text in texts:
            heap = tear(text, 2 if len(text) > 1 else 1)
            long = len(heap[0][0])
            end = text[len(text) - long + 1:]
            product = trees_of(heap, end) * math.factorial(outs_of(heap, end))
            for point in points_of(heap):
                if point != end:
                    product *= math.factorial(outs_of(heap, point) - 1)
            count = count_from(heap, text[:long - 1])
            self.assertEqual(count * math.prod(math.factorial(many) for piece, many in heap), product)
            self.assertTrue(count > 0)
            if begins_of(heap):
                self.assertEqual((begins_of(heap), ends_of(heap)), (((text[:long - 1], 1),), ((end, 1),)))
                self.assertEqual(count_of(heap), count)

    def test_30_pieces_and_somewhat_more(self):
        self.assertEqual(count_of((("ab", 15), ("ba", 15))), 2)
        self.assertEqual(count_of((("aa", 20), ("ab", 5), ("ba", 5))), math.comb(25, 5) + math.comb(24, 4))
        self.assertEqual(count_of((("a", 150), ("b", 150))), math.comb(300, 150))


if __name__ == "__main__":
    unittest.main()
