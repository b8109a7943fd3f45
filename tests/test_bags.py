"""Point 25: bags."""

import unittest

from shredjoin.bags import Bag
from shredjoin.counts import count_of
from shredjoin.errors import NoHeap, NoPiece
from shredjoin.pieces import is_heap, tear
from shredjoin.verdicts import verdict
from tests.things import OTHER_KINDS, deep_list, drawn_numbers, long_text

NO_LONGS = OTHER_KINDS + ("1", "ab", 1.0, [1], (1,), {1: 1}, -300, 302, deep_list())
NO_PIECES = OTHER_KINDS + ("a", "abc", "aB", "a ", " ab", "ab\n", "a\t", "", "a" * 300, ["ab"], ("ab",), {"ab": 1}, b"ab",
                           deep_list())
NO_MANYS = [thing for thing in OTHER_KINDS if type(thing) is not int] + [
    0, -1, -300, -(10 ** 5000), True, False, None, "1", "", 1.0, 2.5, [1], (1,), {1: 1}, deep_list()]


def filled_bag(long, rows):
    bag = Bag(long)
    for piece, many in rows:
        bag.put(piece, many)
    return bag


class Made(unittest.TestCase):
    def test_of_longs(self):
        for long in (1, 2, 3, 150, 299, 300):
            bag = Bag(long)
            self.assertEqual(bag.as_heap(), ())
            bag.put("q" * long)
            self.assertEqual(bag.as_heap(), (("q" * long, 1),))

    def test_of_things_that_are_no_long(self):
        for thing in NO_LONGS:
            with self.assertRaises(NoHeap):
                Bag(thing)


class PutAndTake(unittest.TestCase):
    def test_once_and_many_times(self):
        bag = Bag(2)
        self.assertIsNone(bag.put("ba"))
        self.assertIsNone(bag.put("ab", 3))
        self.assertIsNone(bag.put("ab"))
        self.assertIsNone(bag.put(piece="aa", many=2))
        self.assertEqual(bag.as_heap(), (("aa", 2), ("ab", 4), ("ba", 1)))
        self.assertIsNone(bag.take("ab"))
        self.assertIsNone(bag.take("aa", 2))
        self.assertEqual(bag.as_heap(), (("ab", 3), ("ba", 1)))
        self.assertIsNone(bag.take(piece="ab", many=3))
        self.assertIsNone(bag.take("ba"))
        self.assertEqual(bag.as_heap(), ())
        bag.put("zz")
        self.assertEqual(bag.as_heap(), (("zz", 1),))

    def test_up_to_just_as_many_as_may_be(self):
        for long in (1, 2, 150, 299, 300):
            most, piece, other = 301 - long, "m" * long, "n" * long
            bag = Bag(long)
            with self.assertRaises(NoHeap):
                bag.put(piece, most + 1)
            with self.assertRaises(NoHeap):
                bag.put(piece, 10 ** 5000)
            self.assertEqual(bag.as_heap(), ())
            bag.put(piece, most)
            for more in ((piece,), (other,), (piece, 1), (other, 300)):
                with self.assertRaises(NoHeap):
                    bag.put(*more)
                self.assertEqual(bag.as_heap(), ((piece, most),))
            bag.take(piece)
            bag.put(other)
            self.assertTrue(is_heap(bag.as_heap()))
            with self.assertRaises(NoHeap):
                bag.put(other)
            bag.take(other)
            if most > 1:
                bag.take(piece, most - 1)
            self.assertEqual(bag.as_heap(), ())

    def test_one_by_one_up_to_the_most(self):
        bag = Bag(298)
        for letter in "abc":
            bag.put(letter * 298)
        with self.assertRaises(NoHeap):
            bag.put("d" * 298)
        self.assertEqual(len(bag.as_heap()), 3)

    def test_fewer_than_are_taken(self):
        bag = filled_bag(2, (("ab", 2), ("ba", 1)))
        for taken in (("ab", 3), ("ab", 300), ("ab", 10 ** 5000), ("ba", 2), ("bb",), ("zz", 1)):
            with self.assertRaises(NoPiece):
                bag.take(*taken)
            self.assertEqual(bag.as_heap(), (("ab", 2), ("ba", 1)))
        with self.assertRaises(NoPiece):
            Bag(2).take("ab")

    def test_the_heap_is_that_of_the_pieces(self):
        text, bag = long_text(60), Bag(3)
        for place in range(58):
            bag.put(text[place:place + 3])
            self.assertEqual(bag.as_heap(), tear(text[:place + 3], 3))
        for place in range(57):
            bag.take(text[place:place + 3])
            self.assertEqual(bag.as_heap(), tear(text[place + 1:], 3))

    def test_a_long_row_of_puts_and_takes(self):
        numbers, bag, manys = drawn_numbers(9), Bag(295), {}
        refused = {"put": 0, "take": 0}
        for step in range(2000):
            piece, many = "abc"[next(numbers) % 3] * 295, next(numbers) % 4 + 1
            if next(numbers) % 2:
                fits = sum(manys.values()) + many <= 6
                word, ask, error, change = "put", bag.put, NoHeap, many
            else:
                fits = manys.get(piece, 0) >= many
                word, ask, error, change = "take", bag.take, NoPiece, -many
            if fits:
                ask(piece, many)
                manys[piece] = manys.get(piece, 0) + change
            else:
                refused[word] += 1
                with self.assertRaises(error):
                    ask(piece, many)
            self.assertEqual(bag.as_heap(), tuple(sorted(pair for pair in manys.items() if pair[1])))
        self.assertTrue(min(refused.values()) > 100)


class Refused(unittest.TestCase):
    def refused(self, bag, error, *asked):
        before = bag.as_heap()
        for ask in (bag.put, bag.take):
            with self.assertRaises(error):
                ask(*asked)
            self.assertEqual(bag.as_heap(), before)

    def test_what_is_no_piece(self):
        for bag in (Bag(2), filled_bag(2, (("ab", 2),)), filled_bag(2, (("ab", 299),))):
            for thing in NO_PIECES:
                self.refused(bag, NoPiece, thing)
                self.refused(bag, NoPiece, thing, 1)

    def test_what_is_no_many(self):
        for bag in (Bag(2), filled_bag(2, (("ab", 2),)), filled_bag(2, (("ab", 299),))):
            for thing in NO_MANYS:
                self.refused(bag, NoPiece, "ab", thing)
                self.refused(bag, NoPiece, "zz", thing)

    def test_no_piece_ahead_of_no_heap(self):
        bag = filled_bag(2, (("ab", 299),))
        for piece, many in (("a", 1), ("abc", 300), (None, 10 ** 5000), ("ab", 0), ("ab", True), ("ab", None), (5, "x")):
            with self.assertRaises(NoPiece):
                bag.put(piece, many)
        with self.assertRaises(NoHeap):
            bag.put("ab", 1)
        with self.assertRaises(NoPiece):
            bag.take("ab", 300)
        self.assertEqual(bag.as_heap(), (("ab", 299),))

    def test_both_are_none(self):
        for thing in NO_MANYS:
            self.refused(filled_bag(2, (("ab", 2),)), NoPiece, thing, thing)

    def test_lists_stay_as_they_were(self):
        row = ["ab", "ba"]
        self.refused(Bag(2), NoPiece, row)
        self.refused(Bag(2), NoPiece, "ab", row)
        with self.assertRaises(NoHeap):
            Bag(row)
        self.assertEqual(row, ["ab", "ba"])


class Now(unittest.TestCase):
    def test_empty_bags(self):
        emptied = filled_bag(2, (("ab", 2),))
        emptied.take("ab", 2)
        for bag in (Bag(1), Bag(300), emptied):
            self.assertEqual(bag.as_heap(), ())
            for ask in (bag.verdict_now, bag.texts_now):
                with self.assertRaises(NoHeap):
                    ask()
            self.assertEqual(bag.as_heap(), ())

    def test_as_verdict_and_count_of(self):
        for text, long in (("abcbda", 2), ("banana", 1), ("abcab", 3), ("abc", 3)):
            bag, heap = filled_bag(long, tear(text, long)), tear(text, long)
            self.assertEqual(bag.as_heap(), heap)
            self.assertEqual(bag.verdict_now(), verdict(heap))
            self.assertEqual(bag.texts_now(), count_of(heap))
            self.assertEqual(bag.as_heap(), heap)

    def test_changes_as_pieces_come_and_go(self):
        bag = Bag(2)
        bag.put("ab")
        self.assertEqual((bag.verdict_now(), bag.texts_now()), (("text", "ab"), 1))
        bag.put("ab")
        self.assertEqual((bag.verdict_now(), bag.texts_now()), (("begins", (("a", 2),)), 0))
        bag.put("ba", 2)
        self.assertEqual((bag.verdict_now()[0], bag.texts_now()), ("text", 2))
        bag.put("cc")
        self.assertEqual((bag.verdict_now(), bag.texts_now()), (("apart", ("a", "b")), 0))
        bag.take("cc")
        bag.take("ba")
        self.assertEqual((bag.verdict_now(), bag.texts_now()), (("text", "abab"), 1))

    def test_two_bags_at_once(self):
        one, other, third = Bag(2), Bag(2), Bag(3)
        one.put("ab")
        other.put("ba", 2)
        third.put("aba")
        one.put("bb")
        other.take("ba")
        self.assertEqual(one.as_heap(), (("ab", 1), ("bb", 1)))
        self.assertEqual(other.as_heap(), (("ba", 1),))
        self.assertEqual(third.as_heap(), (("aba", 1),))
        with self.assertRaises(NoPiece):
            other.take("ab")
        self.assertEqual(Bag(2).as_heap(), ())

    def test_a_heap_that_was_told_stays_as_it_was(self):
        bag = filled_bag(2, (("ab", 2),))
        heap = bag.as_heap()
        bag.put("ba")
        bag.take("ab", 2)
        self.assertEqual(heap, (("ab", 2),))
        self.assertEqual(bag.as_heap(), (("ba", 1),))


if __name__ == "__main__":
    unittest.main()
