"""Points 20 to 22: the sure long of a text, what may stand behind and ahead of a piece, the stretch about it."""

import itertools
import unittest

from shredjoin.errors import NoPiece, NoTexts
from shredjoin.exchanges import is_only
from shredjoin.pieces import tear
from shredjoin.sures import ahead_of, behind_of, stretch_of, sure_long
from tests.things import drawn_text, long_text, small_heaps, some_heaps, texts_of, texts_upto


def heaps_with_texts():
    for heap in some_heaps():
        if texts_of(heap):
            yield heap
    for heap in small_heaps(("ab", "ba", "bc", "cb", "cd"), 2):
        if texts_of(heap):
            yield heap
    for seed in range(25):
        yield tear(drawn_text(seed, 12, "abcde"), 2)
        yield tear(drawn_text(seed, 13, "ab"), 4)
        yield tear(drawn_text(seed, 14, "abc"), 3)


class SureLong(unittest.TestCase):
    def judged(self, text, right):
        told = sure_long(text)
        self.assertEqual((type(told), len(told)), (tuple, 2))
        long, other = told
        self.assertEqual(long, right)
        self.assertIs(type(long), int)
        if long == 1:
            self.assertIsNone(other)
        else:
            self.assertNotEqual(other, text)
            self.assertEqual(tear(other, long - 1), tear(text, long - 1))

    def test_the_documents_own(self):
        self.judged("abcab", 4)
        self.assertIs(is_only("abcab", 2), True)
        self.assertEqual(tear("bcabc", 3), tear("abcab", 3))

    def test_one_sign_and_one_letter(self):
        self.judged("a", 1)
        self.judged("z", 1)
        for signs in (2, 3, 17, 299, 300):
            self.judged("q" * signs, 1)

    def test_some(self):
        self.judged("ab", 2)
        self.judged("abc", 2)
        self.judged("aba", 3)
        self.judged("axayaz", 3)

    def test_a_smaller_long_is_sure_but_a_greater_one_is_not(self):
        found = 0
        for text in texts_upto("abc", 6):
            longs = [is_only(text, long) for long in range(1, len(text) + 1)]
            found += any(here and not there for here, there in zip(longs, longs[1:]))
        self.assertTrue(found > 20)
        self.judged("ababab", 6)

    def test_all_small_texts_against_all_texts_of_their_heaps(self):
        for text in list(texts_upto("ab", 8)) + list(texts_upto("abc", 5)):
            long = len(text)
            while long > 1 and texts_of(tear(text, long - 1)) == [text]:
                long -= 1
            self.judged(text, long)

    def test_texts_of_300_signs(self):
        self.judged("ab" * 150, 300)
        self.judged("a" * 150 + "b" + "a" * 149, 151)
        self.judged("a" * 299 + "b", 2)
        self.judged("abc" * 100, 299)
        for seed, letters in ((1, "ab"), (2, "abcd"), (3, "abcdefghijklmnopqrstuvwxyz")):
            text = drawn_text(seed, 300, letters)
            long = sure_long(text)[0]
            self.assertTrue(all(is_only(text, k) for k in range(long, 301)) and not is_only(text, long - 1))
            self.judged(text, long)

    def test_all_longs_of_drawn_texts(self):
        for seed in range(40):
            text = drawn_text(seed, 25, "abc")
            longs = [long for long in range(1, 26) if not is_only(text, long)]
            self.judged(text, max(longs) + 1)


class BehindAndAhead(unittest.TestCase):
    def judged(self, rows, right):
        """Right: a dict that has for each sign the texts in which it stands so."""
        self.assertIs(type(rows), tuple)
        self.assertEqual([sign for sign, text in rows], sorted(right))
        for row in rows:
            self.assertIs(type(row), tuple)
            self.assertIn(row[1], right[row[0]])

    def test_against_all_texts_one_by_one(self):
        for heap in heaps_with_texts():
            texts, long = texts_of(heap), len(heap[0][0])
            for piece, many in heap:
                behind, ahead = {}, {}
                for text in texts:
                    for place in range(len(text) - long + 1):
                        if text[place:place + long] == piece:
                            behind.setdefault(text[place + long:][:1], set()).add(text)
                            ahead.setdefault(text[:place][-1:], set()).add(text)
                self.judged(behind_of(heap, piece), behind)
                self.judged(ahead_of(heap, piece), ahead)

    def test_some(self):
        heap = tear("axayaz", 2)
        self.assertEqual(behind_of(heap, "xa"), (("y", "axayaz"), ("z", "ayaxaz")))
        self.assertEqual(ahead_of(heap, "ax"), (("", "axayaz"), ("y", "ayaxaz")))
        self.assertEqual(behind_of(heap, "az")[0][0], "")
        self.assertEqual(behind_of(heap, "ax"), (("a", behind_of(heap, "ax")[0][1]),))
        self.assertEqual([sign for sign, text in ahead_of(heap, "az")], ["x", "y"])

    def test_one_piece(self):
        for piece in ("a", "ab", "aa", long_text(300)):
            self.assertEqual(behind_of(((piece, 1),), piece), (("", piece),))
            self.assertEqual(ahead_of(((piece, 1),), piece), (("", piece),))

    def test_closed_heaps(self):
        heap = tear("abca", 2)
        self.assertEqual(behind_of(heap, "ab"), (("", "bcab"), ("c", behind_of(heap, "ab")[1][1])))
        self.assertEqual(ahead_of(heap, "ab"), (("", "abca"), ("c", ahead_of(heap, "ab")[1][1])))
        for heap in (tear("banana", 1), tear("abcabd", 1), tear("abacada", 2), tear("abcab", 3)):
            for piece, many in heap:
                self.assertEqual(behind_of(heap, piece)[0][0], "")
                self.assertEqual(ahead_of(heap, piece)[0][0], "")

    def test_a_piece_that_comes_many_times(self):
        self.assertEqual(behind_of((("a", 3),), "a"), (("", "aaa"), ("a", "aaa")))
        self.assertEqual([sign for sign, text in behind_of((("ab", 3), ("ba", 2)), "ab")], ["", "a"])
        heap = (("aa", 2), ("ab", 1), ("ba", 1))
        self.assertEqual([sign for sign, text in behind_of(heap, "aa")], ["", "a", "b"])
        self.assertEqual([sign for sign, text in behind_of((("aa", 1), ("ab", 1)), "aa")], ["b"])

    def test_great_heaps(self):
        text = drawn_text(5, 300, "abcdefgh")
        for long in (1, 2, 3):
            heap = tear(text, long)
            for piece in (text[:long], text[150:150 + long], text[-long:]):
                for rows, behind in ((behind_of(heap, piece), True), (ahead_of(heap, piece), False)):
                    signs = [sign for sign, other in rows]
                    self.assertEqual(signs, sorted(set(signs)))
                    for sign, other in rows:
                        self.assertEqual(tear(other, long), heap)
                        if sign:
                            self.assertIn(piece + sign if behind else sign + piece, other)
                        else:
                            self.assertTrue(other.endswith(piece) if behind else other.startswith(piece))


class Stretches(unittest.TestCase):
    def test_some(self):
        self.assertEqual(stretch_of(tear("abcde", 2), "cd"), "abcde")
        self.assertEqual(stretch_of(tear("axayaz", 2), "ax"), "axa")
        self.assertEqual(stretch_of(tear("axayaz", 2), "az"), "az")
        self.assertEqual(stretch_of(tear("qaxayaz", 2), "qa"), "qa")
        self.assertEqual(stretch_of(tear("abca", 2), "bc"), "bc")
        self.assertEqual(stretch_of((("a", 5),), "a"), "a")

    def grown(self, heap, piece):
        """By the words of the point, from all texts one by one."""
        texts, long, stretch = texts_of(heap), len(heap[0][0]), piece

        def only(signs):
            return signs.pop() if len(signs) == 1 else ""

        def places(text, part):
            return [k for k in range(len(text) - long + 1) if text[k:k + long] == part]

        while True:
            part = stretch[-long:]
            sign = only({text[k + long:][:1] for text in texts for k in places(text, part)})
            if not sign:
                break
            stretch += sign
        while True:
            part = stretch[:long]
            sign = only({text[:k][-1:] for text in texts for k in places(text, part)})
            if not sign:
                return stretch
            stretch = sign + stretch

    def test_against_all_texts_one_by_one(self):
        longer = 0
        for heap in heaps_with_texts():
            texts = texts_of(heap)
            for piece, many in heap:
                stretch = stretch_of(heap, piece)
                self.assertEqual(stretch, self.grown(heap, piece))
                self.assertIs(type(stretch), str)
                self.assertTrue(len(stretch) <= len(texts[0]))
                longer += len(stretch) > len(piece)
                self.about_each(stretch, piece, texts)
        self.assertTrue(longer > 50)

    def about_each(self, stretch, piece, texts):
        long = len(piece)
        places = [k for k in range(len(stretch) - long + 1) if stretch[k:k + long] == piece]
        for text in texts:
            for k in range(len(text) - long + 1):
                if text[k:k + long] == piece:
                    self.assertTrue(any(k >= ahead and text[k - ahead:][:len(stretch)] == stretch for ahead in places))

    def test_texts_of_300_signs(self):
        text = drawn_text(1, 300, "abcd")
        for long in (12, 150, 299, 300):
            for place in (0, (301 - long) // 2, 300 - long):
                self.assertEqual(stretch_of(tear(text, long), text[place:place + long]), text)
        for long in (2, 3, 4, 5, 6):
            stretch = stretch_of(tear(text, long), text[100:100 + long])
            self.assertIn(stretch, text)
            self.assertIn(text[100:100 + long], stretch)


class Refused(unittest.TestCase):
    def test_a_piece_that_the_heap_does_not_have(self):
        for heap in ((("ab", 1), ("ba", 1)), (("abc", 1),), (("a", 2),)):
            for piece in ("zz", "z", "bb", "aab", "abcd", "q" * 300):
                for ask in (behind_of, ahead_of, stretch_of):
                    with self.assertRaises(NoPiece):
                        ask(heap, piece)

    def test_no_texts(self):
        for heap in ((("ab", 2),), (("aa", 1), ("bb", 1)), (("ab", 1), ("cd", 1)), (("ab", 1), ("cc", 1))):
            for (piece, many), ask in itertools.product(heap, (behind_of, ahead_of, stretch_of)):
                with self.assertRaises(NoTexts):
                    ask(heap, piece)

    def test_no_piece_ahead_of_no_texts(self):
        for heap in ((("ab", 2),), (("aa", 1), ("bb", 1)), (("ab", 1), ("cd", 1))):
            for piece, ask in itertools.product(("ba", "zz", "a", "abc"), (behind_of, ahead_of, stretch_of)):
                with self.assertRaises(NoPiece):
                    ask(heap, piece)


if __name__ == "__main__":
    unittest.main()
