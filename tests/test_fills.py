"""Points 23 and 24: the letters from one point to another one, and heaps filled up."""

import itertools
import unittest

from shredjoin.errors import Apart
from shredjoin.fills import filled, letters_to
from shredjoin.nets import begins_of, ends_of
from shredjoin.parts import hangs
from shredjoin.pieces import heap_of, size_of, tear
from shredjoin.verdicts import verdict
from tests.things import drawn_numbers, drawn_text, long_text, small_heaps, some_heaps, texts_of, texts_upto


def shortest_length(heap):
    """How long a shortest str is that holds the pieces: sign by sign, all strs at once."""
    long = len(heap[0][0])
    letters = sorted({sign for piece, many in heap for sign in piece})
    here = {("".join(point), heap) for point in itertools.product(letters, repeat=long - 1)}
    signs = long - 1
    while not any(left == () for point, left in here):
        signs += 1
        there = set()
        for point, left in here:
            for letter in letters:
                piece = point + letter
                manys = dict(left)
                manys[piece] = manys.get(piece, 1) - 1
                there.add((piece[1:], tuple(pair for pair in manys.items() if pair[1] and pair[0] in dict(left))))
        here = there
    return signs


def with_lost_pieces(seed, text, long, lost):
    """The heap of a text from which so many drawn pieces are lost."""
    numbers, row = drawn_numbers(seed), [text[k:k + long] for k in range(len(text) - long + 1)]
    for time in range(lost):
        row.pop(next(numbers) % len(row))
    return heap_of(row)


def begins_in_all(heap):
    return sum(more for point, more in begins_of(heap))


class LettersTo(unittest.TestCase):
    def test_some(self):
        for one, other, letters in (
            ("", "", 0), ("a", "a", 0), ("abc", "abc", 0), ("a" * 299, "a" * 299, 0), ("a", "b", 1), ("ab", "ba", 1),
            ("ab", "bc", 1), ("ab", "cd", 2), ("abc", "cab", 2), ("abc", "bcd", 1), ("abab", "baba", 1),
            ("abab", "abaa", 2), ("aab", "baa", 2), ("abcd", "efgh", 4), ("aaab", "aaaa", 4), ("baaa", "aaaa", 1),
            ("cabab", "ababc", 1), ("xabab", "abxyz", 3), ("a" * 299, "a" * 298 + "b", 1), ("b" + "a" * 298, "b" * 299, 299),
        ):
            with self.subTest(one=one, other=other):
                self.assertEqual(letters_to(one, other), letters)

    def test_that_lap_by_several_lengths(self):
        self.assertEqual(letters_to("xaba", "abay"), 1)
        self.assertEqual(letters_to("zaba", "aqqq"), 3)
        self.assertEqual(letters_to("aabaa", "aabaa"), 0)
        self.assertEqual(letters_to("aabaa", "aabab"), 3)
        self.assertEqual(letters_to("baa", "aab"), 1)

    def test_against_all_strs_one_by_one(self):
        texts = [""] + list(texts_upto("ab", 4))
        for one, other in itertools.product(texts, repeat=2):
            if len(one) == len(other):
                fits = [n for n in range(5) if any((one + "".join(put)).endswith(other)
                                                   for put in itertools.product("ab", repeat=n))]
                self.assertEqual(letters_to(one, other), fits[0])
                self.assertIs(type(letters_to(one, other)), int)


class Filled(unittest.TestCase):
    def judged(self, heap):
        """What the point says of every answer; gives back the str."""
        told, long = filled(heap), len(heap[0][0])
        self.assertEqual((type(told), len(told)), (tuple, 3))
        text, ends, begins = told
        self.assertEqual([type(thing) for thing in told], [str, tuple, tuple])
        self.assertTrue(text.isalpha() and text.islower() and text.isascii())
        row = [text[k:k + long] for k in range(len(text) - long + 1)]
        for piece, many in heap:
            self.assertTrue(row.count(piece) >= many, (heap, text, piece))
        self.assertEqual([point for point, price in ends], [point for point, more in ends_of(heap) for k in range(more)])
        self.assertEqual([point for point, price in begins],
                         [point for point, more in begins_of(heap) for k in range(more)])
        for pair in ends + begins:
            self.assertEqual([type(thing) for thing in (pair,) + pair], [tuple, str, int])
        for (end, price), (begin, other) in itertools.product(ends, begins):
            self.assertTrue(price + other <= letters_to(end, begin), (heap, told))
        more = 0
        if ends:
            more = sum(price for point, price in ends + begins)
            more -= max(price for point, price in ends) + max(price for point, price in begins)
        self.assertEqual(len(text), size_of(heap) + long - 1 + more, (heap, told))
        return text

    def test_heaps_that_have_a_text(self):
        for text in list(texts_upto("ab", 5)) + list(texts_upto("abc", 4)):
            for long in range(1, len(text) + 1):
                heap = tear(text, long)
                self.assertEqual(tear(self.judged(heap), long), heap)
        for long in (1, 2, 3, 20, 299, 300):
            heap = tear(long_text(300), long)
            self.assertEqual(tear(self.judged(heap), long), heap)

    def test_closed_ones_have_no_prices(self):
        for text, long in (("a", 1), ("banana", 1), ("abca", 2), ("abacada", 2), ("abcab", 3), ("aaaa", 4)):
            heap = tear(text, long)
            told = filled(heap)
            self.assertEqual(told[1:], ((), ()))
            self.assertIn(told[0], texts_of(heap))

    def test_long_1(self):
        self.assertEqual(filled((("a", 3),)), ("aaa", (), ()))
        self.assertEqual(sorted(self.judged((("a", 2), ("b", 2)))), list("aabb"))

    def test_some(self):
        self.assertEqual(self.judged((("ab", 3),)), "ababab")
        self.assertEqual(len(self.judged((("ab", 1), ("cb", 1)))), 4)
        self.assertEqual(len(self.judged((("abc", 1), ("abd", 1)))), 6)
        self.assertEqual(len(self.judged((("aab", 1), ("aac", 1), ("bab", 1), ("caa", 1)))), 8)

    def test_a_piece_left_out(self):
        for text, long in (("abcdefg", 2), ("abacabad", 2), ("abacabad", 3), ("aabbabab", 3), ("abcabd", 2)):
            row = [text[k:k + long] for k in range(len(text) - long + 1)]
            for place in range(len(row)):
                heap = heap_of(row[:place] + row[place + 1:])
                if hangs(heap):
                    self.assertTrue(len(self.judged(heap)) <= len(text))

    def test_against_the_shortest_str_one_by_one(self):
        tried, longer = 0, 0
        heaps = itertools.chain(some_heaps(), small_heaps(("aba", "abb", "bab", "bba"), 2),
                                small_heaps(("aabb", "abab", "abba", "bbaa", "baba"), 1),
                                small_heaps(("ab", "ac", "bc", "cb"), 2))
        for heap in heaps:
            if hangs(heap) and size_of(heap) <= 6:
                text = self.judged(heap)
                self.assertEqual(len(text), shortest_length(heap), (heap, text))
                tried += 1
                longer += begins_in_all(heap) > 1
        self.assertTrue(tried > 150 and longer > 60, (tried, longer))

    def test_begins_and_ends_alike_and_unlike(self):
        self.assertEqual(len(self.judged((("ab", 60),))), 120)
        self.assertEqual(len(self.judged((("ab", 30), ("cb", 30)))), 120)
        self.assertEqual(len(self.judged((("ab", 2), ("ad", 1), ("cb", 1), ("cd", 3)))), 14)
        self.assertEqual(len(self.judged((("aab", 4), ("abb", 1), ("baa", 2)))), 13)

    def test_drawn_heaps(self):
        tried = {}
        for seed in range(60):
            for signs, letters, long, lost in ((60, "ab", 4, 20), (80, "abc", 3, 30), (150, "abcde", 2, 60),
                                               (90, "ab", 6, 3)):
                heap = with_lost_pieces(seed, drawn_text(seed, signs, letters), long, lost)
                if hangs(heap) and begins_in_all(heap) <= 60:
                    self.judged(heap)
                    tried[long] = tried.get(long, 0) + (begins_in_all(heap) > 2)
        self.assertTrue(min(tried.values()) > 5, tried)

    def test_begins_that_come_to_60(self):
        tried = 0
        for seed in range(400):
            heap = with_lost_pieces(seed, drawn_text(seed, 300, "abcdefgh"), 3, 90)
            if hangs(heap) and begins_in_all(heap) == 60:
                self.judged(heap)
                tried += 1
        for seed in range(60):
            heap = with_lost_pieces(seed, drawn_text(seed, 300, "abcde"), 2, 150)
            while hangs(heap) and begins_in_all(heap) < 60 and size_of(heap) < 299:
                end, begin = ends_of(heap)[0][0], begins_of(heap)[-1][0]
                heap = heap_of([piece for piece, many in heap for k in range(many)] + [begin + end])
            if hangs(heap) and begins_in_all(heap) == 60:
                self.judged(heap)
                tried += 1
        self.assertTrue(tried > 5, tried)

    def test_somewhat_more_than_60(self):
        self.assertEqual(len(self.judged((("ab", 80),))), 160)

    def test_more_than_300_signs(self):
        self.assertEqual(len(self.judged((("ab", 151), ("ba", 148)))), 302)
        heap = ("a" * 149 + "b", 60), ("b" + "a" * 149, 60)
        self.assertTrue(len(self.judged(heap)) > 300)

    def test_long_points_that_lap_little(self):
        text = long_text(200)
        heap = heap_of([text[:100] + letter for letter in "abcdefghij"])
        self.assertEqual(len(self.judged(heap)), 10 * 101)

    def test_apart(self):
        for heap in ((("aa", 1), ("bb", 1)), (("ab", 1), ("cd", 1)), (("ab", 2), ("cc", 1)), (("abc", 1), ("cba", 1)),
                     (("a" * 299, 1), ("b" * 299, 1))):
            with self.assertRaises(Apart):
                filled(heap)

    def test_just_those_that_do_not_hang_together_are_refused(self):
        for heap in some_heaps():
            try:
                filled(heap)
                told = True
            except Apart:
                told = False
            self.assertIs(told, hangs(heap))

    def test_the_same_each_time(self):
        heaps = [heap for heap in some_heaps() if hangs(heap)]
        first = [filled(heap) for heap in heaps]
        self.assertEqual([filled(heap) for heap in heaps[::-1]], first[::-1])
        self.assertEqual([told[0] for heap, told in zip(heaps, first) if verdict(heap)[0] == "text"],
                         [filled(heap)[0] for heap in heaps if texts_of(heap)])


if __name__ == "__main__":
    unittest.main()
