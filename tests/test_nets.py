"""Points 8 and 9: ties and points, what goes out and comes in, next signs; begins and ends."""

import unittest

from shredjoin.nets import begins_of, ends_of, ins_of, nexts_of, outs_of, points_of
from shredjoin.pieces import heaped, tear
from tests.things import drawn_text, long_text, row_of_pieces, some_heaps, texts_upto


class Points(unittest.TestCase):
    def test_long_1(self):
        for heap in ((("a", 1),), (("a", 300),), (("a", 1), ("b", 2), ("z", 3))):
            self.assertEqual(points_of(heap), ("",))

    def test_long_2(self):
        self.assertEqual(points_of((("ab", 2), ("ba", 1))), ("a", "b"))
        self.assertEqual(points_of((("ab", 1), ("za", 1), ("zz", 5))), ("a", "b", "z"))
        self.assertEqual(points_of((("qq", 3),)), ("q",))
        self.assertEqual(points_of((("za", 1),)), ("a", "z"))

    def test_great_longs(self):
        text = long_text(300)
        self.assertEqual(points_of(tear(text, 300)), tuple(sorted((text[:-1], text[1:]))))
        self.assertEqual(points_of(tear("a" * 300, 300)), ("a" * 299,))
        self.assertEqual(points_of(tear(text, 150)), tuple(sorted(text[k:k + 149] for k in range(152))))

    def test_in_order_each_once(self):
        for heap in some_heaps():
            row = row_of_pieces(heap)
            points = points_of(heap)
            self.assertIs(type(points), tuple)
            self.assertEqual(list(points), sorted({piece[:-1] for piece in row} | {piece[1:] for piece in row}))


class OutsAndIns(unittest.TestCase):
    def test_a_piece_that_comes_many_times(self):
        heap = (("ab", 7), ("ba", 5), ("bc", 1))
        self.assertEqual([outs_of(heap, point) for point in "abc"], [7, 6, 0])
        self.assertEqual([ins_of(heap, point) for point in "abc"], [5, 7, 1])

    def test_a_piece_whose_begin_is_its_end(self):
        heap = (("aa", 4), ("ab", 1))
        self.assertEqual((outs_of(heap, "a"), ins_of(heap, "a")), (5, 4))
        self.assertEqual((outs_of(heap, "b"), ins_of(heap, "b")), (0, 1))

    def test_long_1(self):
        heap = (("a", 2), ("b", 3))
        self.assertEqual((outs_of(heap, ""), ins_of(heap, "")), (5, 5))
        self.assertEqual(nexts_of(heap, ""), (("a", 2), ("b", 3)))

    def test_what_is_no_point(self):
        for heap, point in (((("ab", 1),), "z"), ((("abc", 2),), "ac"), ((("abc", 2),), "ca"),
                            ((("a" * 300, 1),), "b" * 299)):
            self.assertEqual((outs_of(heap, point), ins_of(heap, point), nexts_of(heap, point)), (0, 0, ()))

    def test_great_longs(self):
        text = long_text(300)
        heap = tear(text, 299)
        self.assertEqual([outs_of(heap, text[k:k + 298]) for k in range(3)], [1, 1, 0])
        self.assertEqual([ins_of(heap, text[k:k + 298]) for k in range(3)], [0, 1, 1])
        self.assertEqual(nexts_of(heap, text[1:299]), ((text[299], 1),))

    def test_against_the_pieces_one_by_one(self):
        for heap in list(some_heaps()) + [tear(long_text(300), 2), tear("ab" * 150, 3)]:
            row = row_of_pieces(heap)
            for point in set(points_of(heap)) | {"a" * (len(heap[0][0]) - 1)}:
                outs = [piece for piece in row if piece[:-1] == point]
                self.assertEqual(outs_of(heap, point), len(outs))
                self.assertEqual(ins_of(heap, point), sum(piece[1:] == point for piece in row))
                nexts = nexts_of(heap, point)
                self.assertEqual(nexts, tuple((piece[-1], outs.count(piece)) for piece in sorted(set(outs))))
                self.assertEqual({type(thing) for thing in (nexts,) + nexts}, {tuple})


class Nexts(unittest.TestCase):
    def test_in_order_with_how_often(self):
        heap = (("aa", 1), ("ab", 3), ("az", 2), ("ba", 9))
        self.assertEqual(nexts_of(heap, "a"), (("a", 1), ("b", 3), ("z", 2)))
        self.assertEqual(nexts_of(heap, "b"), (("a", 9),))

    def test_a_point_from_which_nothing_goes_out(self):
        self.assertEqual(nexts_of((("ab", 3),), "b"), ())


class BeginsAndEnds(unittest.TestCase):
    def test_of_a_text_that_is_open(self):
        for text, long in (("abc", 2), ("abracad", 2), ("abab", 2), ("aab", 3), (long_text(300), 4)):
            heap = tear(text, long)
            self.assertEqual(begins_of(heap), ((text[:long - 1], 1),))
            self.assertEqual(ends_of(heap), ((text[1 - long:], 1),))

    def test_of_a_text_that_is_closed(self):
        for text, long in (("a", 1), ("banana", 1), ("abca", 2), ("aaaa", 3), ("abcab", 3), ("a" * 300, 300)):
            self.assertEqual(begins_of(tear(text, long)), ())
            self.assertEqual(ends_of(tear(text, long)), ())

    def test_begins_of_two_and_more(self):
        self.assertEqual(begins_of((("ab", 2),)), (("a", 2),))
        self.assertEqual(ends_of((("ab", 2),)), (("b", 2),))
        heap = (("ab", 5), ("cb", 1), ("dd", 3), ("ea", 2))
        self.assertEqual(begins_of(heap), (("a", 3), ("c", 1), ("e", 2)))
        self.assertEqual(ends_of(heap), (("b", 6),))
        self.assertEqual(ends_of((("ab", 1), ("ac", 4), ("ad", 1))), (("b", 1), ("c", 4), ("d", 1)))
        self.assertEqual(begins_of((("a" * 200, 5), ("b" + "a" * 199, 3))), (("b" + "a" * 198, 3),))

    def test_against_the_pieces_one_by_one(self):
        drawn = [heaped(tear(drawn_text(k, 20, "abc"), 2), tear(drawn_text(k + 90, 9, "bcd"), 2)) for k in range(40)]
        for heap in list(some_heaps()) + drawn:
            row = row_of_pieces(heap)
            more = {point: 0 for piece in row for point in (piece[:-1], piece[1:])}
            for piece in row:
                more[piece[:-1]] += 1
                more[piece[1:]] -= 1
            begins, ends = begins_of(heap), ends_of(heap)
            self.assertEqual(begins, tuple((point, more[point]) for point in sorted(more) if more[point] > 0))
            self.assertEqual(ends, tuple((point, -more[point]) for point in sorted(more) if more[point] < 0))
            self.assertEqual({type(thing) for thing in (begins, ends) + begins + ends}, {tuple})

    def test_both_come_to_the_same_in_all(self):
        heaps = [tear(text, long) for text in texts_upto("ab", 6) for long in range(1, len(text) + 1)]
        for heap in heaps + list(some_heaps()):
            self.assertEqual(sum(more for point, more in begins_of(heap)), sum(more for point, more in ends_of(heap)))


if __name__ == "__main__":
    unittest.main()
