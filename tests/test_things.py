"""What the tests measure by: that it is right itself."""

import itertools
import unittest

from tests.things import drawn_text, row_of_pieces, some_heaps, texts_of


class TextsOf(unittest.TestCase):
    def test_against_all_strs_of_the_letters(self):
        for heap in some_heaps():
            row, long = row_of_pieces(heap), len(heap[0][0])
            signs = len(row) + long - 1
            if signs > 8:
                continue
            letters = sorted({sign for piece in row for sign in piece})
            strs = ("".join(chosen) for chosen in itertools.product(letters, repeat=signs))
            right = [text for text in strs if sorted(text[k:k + long] for k in range(len(row))) == sorted(row)]
            self.assertEqual(texts_of(heap), right)

    def test_some(self):
        self.assertEqual(texts_of((("ab", 2), ("ba", 1))), ["abab"])
        self.assertEqual(texts_of((("ab", 1), ("ba", 1))), ["aba", "bab"])
        self.assertEqual(texts_of((("ab", 1), ("cd", 1))), [])
        self.assertEqual(texts_of((("a", 1), ("b", 2))), ["abb", "bab", "bba"])


class DrawnText(unittest.TestCase):
    def test_the_same_each_time(self):
        self.assertEqual(drawn_text(3, 50, "abc"), drawn_text(3, 50, "abc"))
        self.assertEqual(len(drawn_text(3, 50, "abc")), 50)
        self.assertEqual(set(drawn_text(3, 50, "abc")), set("abc"))
        self.assertEqual(len({drawn_text(seed, 50, "abc") for seed in range(100)}), 100)


if __name__ == "__main__":
    unittest.main()
