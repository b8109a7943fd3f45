"""Points 17 to 19: places and stretches, deeds, the change of a text and where it is the only one."""

import itertools
import unittest

from shredjoin.errors import NoDeed
from shredjoin.exchanges import change_of, deed_done, is_only
from shredjoin.pieces import tear
from tests.things import OTHER_KINDS, deep_list, drawn_text, long_text, texts_of, texts_upto


def done_by_the_words(text, long, deed):
    """What the deed leads to by points 17 and 18, None where it does not fit; of a deed of whole numbers."""
    last, lap, places = len(text) - long + 1, long - 1, deed[1:]
    points = [text[place:place + lap] for place in range(last + 1)]
    if any(place < 0 or place > last for place in places) or list(places) != sorted(places):
        return None

    def stretch(i, j):
        return text[i + long - 1:j + long - 1]

    if deed[0] == "turn":
        a, = places
        return points[a] + stretch(a, last) + stretch(0, a) if points[0] == points[last] else None
    a, b, c, d = places
    if points[a] != points[c] or points[b] != points[d]:
        return None
    return points[0] + stretch(0, a) + stretch(c, d) + stretch(b, c) + stretch(a, b) + stretch(d, last)


def done_or_none(text, long, deed):
    try:
        return deed_done(text, long, deed)
    except NoDeed:
        return None


class Deeds(unittest.TestCase):
    def test_swaps(self):
        self.assertEqual(deed_done("axbyacb", 2, ("swap", 0, 2, 4, 6)), "acbyaxb")
        self.assertEqual(deed_done("axayaz", 2, ("swap", 0, 2, 2, 4)), "ayaxaz")
        self.assertEqual(deed_done("axayaz", 2, ("swap", 0, 0, 2, 4)), "ayaxaz")
        self.assertEqual(deed_done("abcd", 1, ("swap", 0, 1, 3, 4)), "dbca")
        self.assertEqual(deed_done("qabxabyabz", 3, ("swap", 1, 4, 4, 7)), "qabyabxabz")

    def test_turns(self):
        self.assertEqual(deed_done("abca", 2, ("turn", 1)), "bcab")
        self.assertEqual(deed_done("abca", 2, ("turn", 2)), "cabc")
        self.assertEqual(deed_done("abca", 2, ("turn", 0)), "abca")
        self.assertEqual(deed_done("abca", 2, ("turn", 3)), "abca")
        self.assertEqual(deed_done("abcd", 1, ("turn", 3)), "dabc")
        self.assertEqual(deed_done("abcab", 3, ("turn", 1)), "bcabc")

    def test_that_do_not_fit(self):
        for text, long, deed in (
            ("abcd", 2, ("turn", 1)), ("abcd", 2, ("turn", 0)), ("abca", 3, ("turn", 1)), ("abca", 2, ("turn", 4)),
            ("abca", 2, ("turn", -1)), ("axbyacb", 2, ("swap", 0, 1, 4, 6)), ("axbyacb", 2, ("swap", 0, 2, 3, 6)),
            ("axbyacb", 2, ("swap", 4, 6, 0, 2)), ("axayaz", 2, ("swap", 2, 0, 2, 4)), ("axayaz", 2, ("swap", 0, 4, 2, 4)),
            ("abcd", 1, ("swap", 0, 1, 3, 5)), ("abcd", 1, ("swap", -1, 1, 3, 4)), ("aaaa", 2, ("swap", 0, 1, 2, 4)),
            ("abab", 1, ("swap", 0, 2, 1, 3)), ("abab", 1, ("swap", 0, 1, 3, 2)), ("abab", 1, ("swap", 5, 5, 5, 5)),
        ):
            with self.subTest(text=text, deed=deed), self.assertRaises(NoDeed):
                deed_done(text, long, deed)

    def test_at_0_and_at_the_last_place(self):
        self.assertEqual(deed_done("abcab", 2, ("swap", 0, 1, 3, 4)), "abcab")
        self.assertEqual(deed_done("axbyab", 2, ("swap", 0, 2, 4, 5)), "abyaxb")
        self.assertEqual(deed_done("ab", 1, ("swap", 0, 1, 1, 2)), "ba")
        self.assertEqual(deed_done("ab", 1, ("turn", 2)), "ab")
        self.assertEqual(deed_done("aaaa", 2, ("swap", 3, 3, 3, 3)), "aaaa")

    def test_where_places_are_the_same(self):
        for text, long in (("axayaz", 2), ("aaaa", 2), ("abcdefa", 1), ("abab", 1), ("abcabxab", 3)):
            last = len(text) - long + 1
            for a, b, c, d in itertools.combinations_with_replacement(range(last + 1), 4):
                if a == b or b == c or c == d:
                    deed = ("swap", a, b, c, d)
                    self.assertEqual(done_or_none(text, long, deed), done_by_the_words(text, long, deed))

    def test_all_deeds_of_small_texts(self):
        for text in list(texts_upto("ab", 4)) + ["abcab", "abaab", "aabab"]:
            for long in range(1, len(text) + 1):
                places = range(-1, len(text) - long + 3)
                deeds = [("swap",) + chosen for chosen in itertools.product(places, repeat=4)]
                for deed in deeds + [("turn", a) for a in places]:
                    told = done_or_none(text, long, deed)
                    self.assertEqual(told, done_by_the_words(text, long, deed))
                    if told is not None:
                        self.assertEqual(tear(told, long), tear(text, long))

    def test_a_long_that_is_the_texts_own_length(self):
        for text in ("a", "ab", "aa", "abcde", long_text(300), "a" * 300):
            self.assertEqual(deed_done(text, len(text), ("swap", 0, 0, 0, 0)), text)
            self.assertEqual(deed_done(text, len(text), ("swap", 0, 1, 1, 1)) if len(set(text)) == 1 else text, text)
            self.assertEqual(done_or_none(text, len(text), ("turn", 1)), text if len(set(text)) == 1 else None)
            self.assertIsNone(done_or_none(text, len(text), ("turn", 2)))
            self.assertIsNone(done_or_none(text, len(text), ("swap", 0, 0, 0, 2)))

    def test_long_texts(self):
        text = long_text(300)
        self.assertEqual(deed_done(text, 1, ("swap", 0, 100, 200, 300)), text[200:] + text[100:200] + text[:100])
        self.assertEqual(deed_done(text, 1, ("turn", 299)), text[299] + text[:299])
        with self.assertRaises(NoDeed):
            deed_done(text, 1, ("swap", 0, 100, 200, 301))


class NoDeeds(unittest.TestCase):
    def refused(self, *things):
        for text, long in (("aaaaa", 1), ("aaaaa", 2), ("ababa", 1), ("abcda", 2), ("a" * 300, 3)):
            for thing in things:
                with self.assertRaises(NoDeed):
                    deed_done(text, long, thing)

    def test_other_kinds(self):
        self.refused(*OTHER_KINDS)
        self.refused(deep_list(), "swap", "turn", ["turn", 0], ["swap", 0, 0, 0, 0], {"turn": 0}, {"turn", 0})

    def test_other_lengths(self):
        self.refused((), ("swap",), ("turn",), ("turn", 0, 0), ("swap", 0, 0, 0), ("swap", 0, 0, 0, 0, 0), ("swap", 0),
                     ("turn", 0, 0, 0, 0), ("swap", (0, 0, 0, 0)), ("turn", (0,)), (("turn", 0),))

    def test_other_words(self):
        self.refused(("Turn", 0), ("turn ", 0), ("", 0), ("swap ", 0, 0, 0, 0), ("SWAP", 0, 0, 0, 0), (None, 0), (0, 0),
                     (0, 0, 0, 0, 0), ("turns", 0), (("turn",), 0), (["swap"], 0, 0, 0, 0), (b"turn", 0), (True, 0))

    def test_what_is_no_whole_number(self):
        things = [thing for thing in OTHER_KINDS if type(thing) is not int]
        for thing in things + [True, False, None, "0", 0.0, 1.0, [0], (0,), -1, -300, 302, 10 ** 5000, deep_list()]:
            self.refused(("turn", thing), ("swap", thing, 0, 0, 0), ("swap", 0, thing, 0, 0), ("swap", 0, 0, thing, 0),
                         ("swap", 0, 0, 0, thing), ("swap", thing, thing, thing, thing))

    def test_a_list_within_stays_as_it_was(self):
        deed = ["turn", [0]]
        for thing in (deed, ("turn", deed), (deed, 0)):
            self.refused(thing)
        self.assertEqual(deed, ["turn", [0]])


class Changes(unittest.TestCase):
    def judged(self, text, long, only):
        change = change_of(text, long)
        self.assertIs(is_only(text, long), only, (text, long, change))
        if only:
            self.assertIsNone(change)
        else:
            self.assertIs(type(change), tuple)
            other = deed_done(text, long, change)
            self.assertNotEqual(other, text)
            self.assertEqual(tear(other, long), tear(text, long))

    def test_some(self):
        for text, long, only in (
            ("abcab", 2, True), ("abcab", 3, False), ("abcab", 4, True), ("abcab", 1, False), ("a", 1, True),
            ("aaaa", 2, True), ("ab", 1, False), ("ab", 2, True), ("axayaz", 2, False), ("axbyaxb", 2, True),
            ("abba", 2, False), ("aab", 2, True), ("abab", 2, True), ("aaba", 2, False),
        ):
            with self.subTest(text=text, long=long):
                self.judged(text, long, only)

    def test_against_all_texts_of_the_heap(self):
        texts = list(texts_upto("ab", 8)) + list(texts_upto("abc", 6)) + list(texts_upto("abcd", 5))
        for text in texts:
            for long in range(1, len(text) + 1):
                if long == 1:
                    only = len(set(text)) == 1
                else:
                    only = texts_of(tear(text, long)) == [text]
                self.judged(text, long, only)

    def test_drawn_texts_against_all_texts_of_the_heap(self):
        for seed in range(60):
            for signs, letters, long in ((14, "ab", 3), (14, "abc", 3), (13, "abcde", 2), (16, "ab", 4), (20, "ab", 5)):
                text = drawn_text(seed, signs, letters)
                self.judged(text, long, texts_of(tear(text, long)) == [text])

    def test_long_texts(self):
        for long in (2, 7, 100, 150, 151, 200, 299, 300):
            self.judged("a" * 300, long, True)
            self.judged("ab" * 150, long, long % 2 == 0)
        self.judged(long_text(300), 1, False)
        self.judged(long_text(300), 12, True)
        self.judged("a" * 150 + "b" + "a" * 149, 149, False)
        self.judged("a" * 150 + "b" + "a" * 149, 151, True)

    def test_the_same_each_time(self):
        text = drawn_text(4, 60, "abc")
        changes = [change_of(text, long) for long in range(1, 60)]
        self.assertEqual([change_of(text, long) for long in range(59, 0, -1)], changes[::-1])


if __name__ == "__main__":
    unittest.main()
