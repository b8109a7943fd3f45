"""Point 16: the texts of a heap by their numbers, in order and back."""

import itertools
import math
import unittest

from shredjoin.counts import count_of
from shredjoin.errors import NoNumber
from shredjoin.pieces import tear
from shredjoin.ranks import number_of, text_at
from tests.things import OTHER_KINDS, deep_list, drawn_text, some_heaps, texts_of, texts_upto

NO_NUMBERS = [thing for thing in OTHER_KINDS if type(thing) is not int] + [
    True, False, None, "0", "1", "", 0.0, 1.0, 1.5, [0], (0,), {0: 0}, {0}, b"0", 0j, range(1), int, deep_list()]


class Numbers(unittest.TestCase):
    def test_each_number_below_the_count(self):
        for heap in some_heaps():
            texts, long = texts_of(heap), len(heap[0][0])
            told = [text_at(heap, number) for number in range(count_of(heap))]
            self.assertEqual(told, texts)
            self.assertEqual([number_of(text, long) for text in told], list(range(len(texts))))

    def test_closed_heaps_by_their_begins(self):
        heap = tear("abcbda", 2)
        texts = texts_of(heap)
        self.assertEqual({text[0] for text in texts}, set("abcd"))
        self.assertEqual([text_at(heap, number) for number in range(len(texts))], texts)

    def test_all_small_texts_at_each_long(self):
        for text in texts_upto("ab", 7):
            for long in range(1, len(text) + 1):
                heap = tear(text, long)
                number = number_of(text, long)
                self.assertIs(type(number), int)
                self.assertEqual(text_at(heap, number), text)
                self.assertEqual(texts_of(heap)[number], text)

    def test_great_counts(self):
        letters = "abcdefghijklmnopqrstuvwxyz"
        heap = tear(letters, 1)
        self.assertEqual(text_at(heap, 0), letters)
        self.assertEqual(text_at(heap, math.factorial(26) - 1), letters[::-1])
        self.assertEqual(number_of(letters[::-1], 1), math.factorial(26) - 1)
        self.assertEqual(text_at(heap, math.factorial(25)), "ba" + letters[2:])
        for seed in range(12):
            text = drawn_text(seed, 31, "abcdefghijkl")
            heap, number = tear(text, 2), number_of(text, 2)
            count = count_of(heap)
            self.assertTrue(0 <= number < count)
            self.assertEqual(text_at(heap, number), text)
            told = [text_at(heap, k) for k in sorted({0, 1, number, count // 3, count // 2, count - 2, count - 1})]
            self.assertEqual(told, sorted(set(told)))
            for text in told:
                self.assertEqual(tear(text, 2), heap)
                self.assertEqual(text_at(heap, number_of(text, 2)), text)

    def test_one_text(self):
        for text, long in (("a", 1), ("aaaa", 2), ("abc", 3), ("abcde", 2), ("z" * 30, 1)):
            self.assertEqual(text_at(tear(text, long), 0), text)
            self.assertEqual(number_of(text, long), 0)


class Refused(unittest.TestCase):
    def refused(self, heap, things):
        for thing in things:
            with self.assertRaises(NoNumber):
                text_at(heap, thing)

    def test_numbers_that_are_not_below_the_count(self):
        for heap in itertools.chain(some_heaps(), [tear("abcdefghijklmnopqrstuvwxyz", 1)]):
            count = count_of(heap)
            self.refused(heap, (count, count + 1, -1, -count, -count - 1, 10 ** 5000, -(10 ** 5000)))

    def test_what_is_no_number(self):
        for heap in ((("ab", 1), ("ba", 1)), (("a", 2), ("b", 2)), (("abc", 1),)):
            self.refused(heap, NO_NUMBERS)

    def test_where_there_are_no_texts(self):
        for heap in ((("ab", 2),), (("aa", 1), ("bb", 1)), (("ab", 1), ("cd", 1))):
            self.refused(heap, [0, 1, -1] + NO_NUMBERS)


if __name__ == "__main__":
    unittest.main()
