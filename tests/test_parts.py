"""Point 10: the part of a heap, and where a heap hangs together."""

import unittest

from shredjoin.nets import points_of
from shredjoin.parts import hangs, part_of
from shredjoin.pieces import heap_of, tear
from tests.things import long_text, row_of_pieces, some_heaps, texts_upto


def hung_together(heap):
    """The points that hang together with the first begin, by joining groups until nothing joins."""
    groups = [{piece[:-1], piece[1:]} for piece in row_of_pieces(heap)]
    part = {heap[0][0][:-1]}
    for time in range(len(groups)):
        for group in groups:
            if part & group:
                part |= group
    return tuple(sorted(part))


class Parts(unittest.TestCase):
    def judged(self, heap, part, whole):
        self.assertEqual(part_of(heap), part)
        self.assertIs(type(part_of(heap)), tuple)
        self.assertIs(hangs(heap), whole)

    def test_that_hang_together(self):
        self.judged((("ab", 2), ("ba", 1)), ("a", "b"), True)
        self.judged((("a", 1),), ("",), True)
        self.judged((("a", 1), ("z", 299)), ("",), True)
        self.judged((("aa", 3),), ("a",), True)
        self.judged((("a" * 299 + "b", 1),), ("a" * 299, "a" * 298 + "b"), True)

    def test_that_do_not(self):
        self.judged((("ab", 1), ("cd", 1)), ("a", "b"), False)
        self.judged((("aa", 1), ("bb", 1)), ("a",), False)
        self.judged((("ba", 1), ("cd", 1), ("dc", 1)), ("a", "b"), False)
        self.judged((("abc", 1), ("acb", 1), ("bca", 1)), ("ab", "bc", "ca"), False)
        self.judged((("a" * 299, 1), ("b" * 299, 1)), ("a" * 298,), False)

    def test_a_point_reached_only_against_a_tie(self):
        self.judged((("ab", 1), ("cb", 1)), ("a", "b", "c"), True)
        self.judged((("ab", 1), ("cb", 1), ("cd", 1), ("ed", 1)), ("a", "b", "c", "d", "e"), True)
        self.judged((("bc", 1), ("zb", 1)), ("b", "c", "z"), True)
        self.judged((("ab", 1), ("cb", 1), ("dd", 1)), ("a", "b", "c"), False)

    def test_the_begin_of_the_first_piece_is_in_it(self):
        for heap in some_heaps():
            self.assertIn(heap[0][0][:-1], part_of(heap))

    def test_against_groups_that_are_joined(self):
        for heap in some_heaps():
            part = hung_together(heap)
            self.judged(heap, part, part == points_of(heap))

    def test_the_heap_of_each_text_hangs_together(self):
        for text in list(texts_upto("ab", 5)) + [long_text(60)]:
            for long in range(1, len(text) + 1):
                self.assertIs(hangs(tear(text, long)), True)

    def test_a_chain_of_as_many_points_as_may_be(self):
        text = long_text(300)
        self.judged(tear(text, 4), tuple(sorted({text[k:k + 3] for k in range(298)})), True)
        letters = "abcdefghijklmnopqrst"
        pairs = [one + other for one in letters for other in letters if one < other]
        self.judged(heap_of(pairs), tuple(letters), True)
        self.judged(heap_of(pairs + ["zz"]), tuple(letters), False)


if __name__ == "__main__":
    unittest.main()
