"""Point 7: the line of a heap, and which lines are read."""

import itertools
import re
import unittest

from shredjoin.errors import NoLine
from shredjoin.lines import read_heap, show_heap
from shredjoin.pieces import heap_of, tear
from tests.things import OTHER_KINDS, deep_list, long_text, texts_upto

WORDS = re.compile(r"[a-z]+(\*([2-9]|[1-9][0-9]+))?( [a-z]+(\*([2-9]|[1-9][0-9]+))?)*\Z")


def is_written(line):
    """Judged by the words of the point alone."""
    if not WORDS.match(line):
        return False
    pairs = [word.split("*") for word in line.split(" ")]
    names = [pair[0] for pair in pairs]
    size = sum(int(pair[1]) if len(pair) == 2 else 1 for pair in pairs)
    return len(set(map(len, names))) == 1 and names == sorted(set(names)) and size <= 301 - len(names[0])


class ThereAndBack(unittest.TestCase):
    def there_and_back(self, heap, line):
        self.assertEqual(show_heap(heap), line)
        read = read_heap(line)
        self.assertEqual(read, heap)
        self.assertIs(type(read), tuple)
        for pair in read:
            self.assertEqual([type(thing) for thing in (pair,) + pair], [tuple, str, int])

    def test_the_documents_own(self):
        self.there_and_back((("ab", 2), ("ba", 1)), "ab*2 ba")
        self.there_and_back(tear("abab", 2), "ab*2 ba")

    def test_some(self):
        self.there_and_back((("a", 1),), "a")
        self.there_and_back((("a", 2),), "a*2")
        self.there_and_back((("a", 9), ("b", 10), ("c", 11), ("d", 99), ("e", 100)), "a*9 b*10 c*11 d*99 e*100")
        self.there_and_back((("ab", 1), ("ac", 1), ("ba", 1)), "ab ac ba")
        self.there_and_back((("a" * 300, 1),), "a" * 300)
        self.there_and_back((("a" * 299, 1), ("b" * 299, 1)), "a" * 299 + " " + "b" * 299)

    def test_each_many(self):
        self.there_and_back((("q", 1),), "q")
        for many in range(2, 301):
            self.there_and_back((("q", many),), "q*" + str(many))

    def test_heaps_of_texts(self):
        for text in list(texts_upto("abz", 5)) + [long_text(300), "ab" * 150]:
            for long in range(1, len(text) + 1):
                heap = tear(text, long)
                line = show_heap(heap)
                self.assertEqual(read_heap(line), heap)
                self.assertTrue(is_written(line))

    def test_as_many_unlike_pieces_as_may_be(self):
        row = [one + other for one, other in itertools.product("abcdefghijklmnopqrstuvwxyz", repeat=2)]
        self.there_and_back(heap_of(row[:299]), " ".join(row[:299]))
        with self.assertRaises(NoLine):
            read_heap(" ".join(row[:300]))


class Refused(unittest.TestCase):
    def refused(self, *lines):
        for line in lines:
            with self.subTest(line=line):
                with self.assertRaises(NoLine):
                    read_heap(line)

    def test_blanks(self):
        self.refused(" ", "  ", " ab", "ab ", "ab  ba", " ab*2 ba", "ab*2 ba ", "ab *2", "ab* 2", "ab*2  ba", "a b*")

    def test_tabs_and_line_ends(self):
        self.refused("\t", "\n", "ab\n", "\nab", "ab\tba", "ab\nba", "ab*2\tba", "ab*2\n", "ab*2 ba\n", "ab*2\n ba",
                     "ab*\t2", "ab*2\r", "ab\r\nba", "\tab", "ab \tba")

    def test_no_order(self):
        self.refused("ba ab", "ba ab*2", "a c b", "b a c")

    def test_a_piece_twice(self):
        self.refused("ab ab", "ab ab*2", "ab*2 ab", "ab ba ab", "ab*2 ba ba")

    def test_unlike_lengths(self):
        self.refused("a ab", "ab b", "ab bc c", "ab*2 b", "a bc*2")

    def test_stars_and_numbers(self):
        self.refused("ab*", "ab*0", "ab*1", "ab*02", "ab*002", "ab*00", "ab*01", "ab*0 ba", "ab*1 ba", "ab ba*1",
                     "ab ba*", "ab ba*0", "ab*2*", "ab**2", "ab*2*3", "ab*2*1", "*", "*2", "**", "2", "2*ab", "*ab",
                     "ab2", "ab*-2", "ab*+2", "ab*2.0", "ab*2_0", "ab*1_0", "ab*x", "ab*2x", "ab*b", "ab*2ba", "a*2*b")

    def test_signs_that_are_none(self):
        self.refused("A", "Ab", "aB*2", "a-b", "a1", "ab,ba", "ab;", "ab~", "('ab', 2)")

    def test_too_many_pieces(self):
        self.refused("a*301", "ab*300", "a*300 b", "a b*300", "a*999", "a*1000", "ab*298 ba*2", "a" * 300 + "*2",
                     "a" * 299 + "*3", "a" * 301, "a" * 300 + " " + "b" * 300)
        self.refused("a*" + "9" * 5000, "a*" + "0" * 5000 + "2", "a*2" + "0" * 100000, "a" * 100000, "a " * 100000)

    def test_no_signs(self):
        self.refused("")

    def test_what_is_no_str(self):
        for thing in OTHER_KINDS + (b"ab", ["ab"], ("ab",), {"ab": 2}, (("ab", 2),), 1, 2, deep_list()):
            with self.assertRaises(NoLine):
                read_heap(thing)

    def test_all_small_lines(self):
        for many in range(0, 7):
            for signs in itertools.product("ab *12" if many == 6 else "ab *120", repeat=many):
                line = "".join(signs)
                try:
                    read = show_heap(read_heap(line))
                except NoLine:
                    read = None
                self.assertEqual(read, line if is_written(line) else None)


if __name__ == "__main__":
    unittest.main()
