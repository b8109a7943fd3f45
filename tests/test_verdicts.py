"""Point 12: the verdict of a heap."""

import unittest

from shredjoin.nets import begins_of, points_of
from shredjoin.parts import part_of
from shredjoin.pieces import heap_of, tear
from shredjoin.verdicts import verdict
from tests.things import drawn_text, long_text, some_heaps, texts_of, texts_upto


class Verdicts(unittest.TestCase):
    def has_text(self, heap):
        told = verdict(heap)
        self.assertIs(type(told), tuple)
        self.assertEqual((len(told), told[0]), (2, "text"))
        self.assertEqual(tear(told[1], len(heap[0][0])), heap)

    def test_texts(self):
        self.assertEqual(verdict((("ab", 2), ("ba", 1))), ("text", "abab"))
        self.assertEqual(verdict((("ab", 1), ("bc", 1))), ("text", "abc"))
        for heap in ((("ab", 1), ("ba", 1)), (("a", 2), ("b", 2)), (("aa", 2), ("ab", 1), ("ba", 1))):
            self.has_text(heap)

    def test_begins(self):
        self.assertEqual(verdict((("ab", 2),)), ("begins", (("a", 2),)))
        self.assertEqual(verdict((("ab", 1), ("ac", 1))), ("begins", (("a", 2),)))
        self.assertEqual(verdict((("ac", 1), ("bc", 3))), ("begins", (("a", 1), ("b", 3))))

    def test_apart(self):
        self.assertEqual(verdict((("aa", 1), ("bb", 1))), ("apart", ("a",)))
        self.assertEqual(verdict((("ab", 1), ("cd", 1), ("dc", 1))), ("apart", ("a", "b")))
        self.assertEqual(verdict((("bb", 1), ("ca", 1))), ("apart", ("b",)))

    def test_both_begins_and_apart(self):
        self.assertEqual(verdict((("ab", 1), ("cd", 1))), ("begins", (("a", 1), ("c", 1))))
        self.assertEqual(verdict((("ab", 2), ("cc", 1))), ("begins", (("a", 2),)))

    def test_one_piece(self):
        for piece in ("a", "aa", "ab", "abc", "z" * 300, long_text(300)):
            self.assertEqual(verdict(((piece, 1),)), ("text", piece))

    def test_300_pieces_of_long_1(self):
        self.assertEqual(verdict((("a", 300),)), ("text", "a" * 300))
        self.has_text((("a", 100), ("b", 150), ("z", 50)))
        self.has_text(tear(long_text(300), 1))

    def test_great_heaps(self):
        for long in (2, 3, 4, 7, 150, 299):
            self.has_text(tear(long_text(300), long))
            self.has_text(tear(drawn_text(long, 300, "ab"), long))
        self.has_text((("ab", 149), ("ba", 150)))
        self.assertEqual(verdict((("ab", 151), ("ba", 148))), ("begins", (("a", 3),)))

    def test_the_kinds_of_rows(self):
        for heap in ((("ab", 2),), (("aa", 1), ("bb", 1))):
            told = verdict(heap)
            self.assertEqual([type(thing) for thing in (told, told[0], told[1])], [tuple, str, tuple])

    def test_against_all_texts_one_by_one(self):
        told = {"text": 0, "begins": 0, "apart": 0}
        for heap in some_heaps():
            texts, answer = texts_of(heap), verdict(heap)
            told[answer[0]] += 1
            if texts:
                self.assertEqual(answer[0], "text")
                self.assertIn(answer[1], texts)
            elif sum(more for point, more in begins_of(heap)) > 1:
                self.assertEqual(answer, ("begins", begins_of(heap)))
            else:
                self.assertEqual(answer, ("apart", part_of(heap)))
                self.assertNotEqual(part_of(heap), points_of(heap))
        self.assertTrue(min(told.values()) >= 10, told)

    def test_the_heap_of_each_text(self):
        for text in texts_upto("abc", 5):
            for long in range(1, len(text) + 1):
                self.has_text(tear(text, long))

    def test_asked_again_behind_other_heaps_the_same(self):
        heaps = list(some_heaps()) + [tear(long_text(300), 2), heap_of(["ab", "cd"])]
        first = [verdict(heap) for heap in heaps]
        self.assertEqual([verdict(heap) for heap in heaps[::-1]], first[::-1])


if __name__ == "__main__":
    unittest.main()
