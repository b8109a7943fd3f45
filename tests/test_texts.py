"""Points 2 and 4: what a text and a long are, and the pieces of a text."""

import unittest

from shredjoin.errors import NoText
from shredjoin.pieces import is_text, size_of, tear
from tests.things import OTHER_KINDS, deep_list, long_text, texts_upto

LETTERS = "abcdefghijklmnopqrstuvwxyz"
NO_LETTERS = [chr(code) for code in range(32, 127) if chr(code) not in LETTERS] + ["\t", "\n", "\r"]
NO_LONGS = [thing for thing in OTHER_KINDS if thing is not True] + [True, "1", "2", 1.0, [1], (1,), {1: 1}, -300, 302]


class IsText(unittest.TestCase):
    def test_texts(self):
        for thing in list(LETTERS) + ["az", "zzz", LETTERS, "a" * 300, "z" * 299, long_text(300)]:
            self.assertIs(is_text(thing), True)

    def test_lengths(self):
        self.assertIs(is_text(""), False)
        self.assertIs(is_text("a"), True)
        self.assertIs(is_text("a" * 300), True)
        self.assertIs(is_text("a" * 301), False)
        self.assertIs(is_text("a" * 100000), False)

    def test_a_sign_that_is_no_small_letter(self):
        for sign in NO_LETTERS:
            for thing in (sign, sign + "bc", "a" + sign + "c", "ab" + sign, "a" * 299 + sign, sign + "a" * 299):
                with self.subTest(thing=thing):
                    self.assertIs(is_text(thing), False)

    def test_other_kinds(self):
        for thing in OTHER_KINDS:
            self.assertIs(is_text(thing), False)
        for thing in (["a"], ("a",), {"a": "a"}, ["a", "b"], 97, 300, b"a", deep_list()):
            self.assertIs(is_text(thing), False)


class Tear(unittest.TestCase):
    def test_the_documents_own(self):
        self.assertEqual(tear("abab", 2), (("ab", 2), ("ba", 1)))

    def test_small_ones(self):
        self.assertEqual(tear("a", 1), (("a", 1),))
        self.assertEqual(tear("banana", 1), (("a", 3), ("b", 1), ("n", 2)))
        self.assertEqual(tear("banana", 2), (("an", 2), ("ba", 1), ("na", 2)))
        self.assertEqual(tear("banana", 3), (("ana", 2), ("ban", 1), ("nan", 1)))
        self.assertEqual(tear("banana", 5), (("anana", 1), ("banan", 1)))
        self.assertEqual(tear("banana", 6), (("banana", 1),))

    def test_a_long_greater_than_the_text(self):
        for text in ("a", "ab", "banana", "a" * 299):
            self.assertEqual(tear(text, len(text)), ((text, 1),))
            with self.assertRaises(NoText):
                tear(text, len(text) + 1)
            with self.assertRaises(NoText):
                tear(text, 300)

    def test_texts_of_300_signs(self):
        self.assertEqual(tear("a" * 300, 1), (("a", 300),))
        self.assertEqual(tear("a" * 300, 2), (("aa", 299),))
        self.assertEqual(tear("a" * 300, 299), (("a" * 299, 2),))
        self.assertEqual(tear("a" * 300, 300), (("a" * 300, 1),))
        text = long_text(300)
        self.assertEqual(tear(text, 300), ((text, 1),))
        self.assertEqual(tear(text, 299), tuple(sorted([(text[1:], 1), (text[:-1], 1)])))
        with self.assertRaises(NoText):
            tear(text, 301)

    def test_texts_of_301_signs_and_none(self):
        for text in ("a" * 301, ""):
            for long in (0, 1, 2, 300, 301):
                with self.assertRaises(NoText):
                    tear(text, long)

    def test_against_a_walk_over_all_places(self):
        for text in list(texts_upto("abz", 5)) + ["abracadabra", long_text(60)]:
            for long in range(1, len(text) + 1):
                row = sorted(text[place:][:long] for place in range(len(text)) if len(text[place:]) >= long)
                heap = tear(text, long)
                self.assertEqual(heap, tuple((piece, row.count(piece)) for piece in sorted(set(row))))
                self.assertEqual(size_of(heap), len(text) - long + 1)

    def test_what_is_no_text(self):
        for thing in OTHER_KINDS + (["a", "b"], ("a", "b"), "aB", "a-b", "ab\n", " ab", deep_list()):
            with self.assertRaises(NoText):
                tear(thing, 1)

    def test_what_is_no_long(self):
        for thing in NO_LONGS:
            for text in ("ab", "a" * 300):
                with self.assertRaises(NoText):
                    tear(text, thing)

    def test_neither_a_text_nor_a_long(self):
        for thing in OTHER_KINDS:
            with self.assertRaises(NoText):
                tear(thing, thing)

    def test_rows_are_tuples(self):
        heap = tear("abab", 2)
        self.assertIs(type(heap), tuple)
        for pair in heap:
            self.assertIs(type(pair), tuple)
            self.assertIs(type(pair[0]), str)
            self.assertIs(type(pair[1]), int)


if __name__ == "__main__":
    unittest.main()
