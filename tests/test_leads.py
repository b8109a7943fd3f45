"""Point 19: how a text is led to another one that has the same heap."""

import itertools
import unittest

from shredjoin.errors import Unlike
from shredjoin.exchanges import deed_done
from shredjoin.leads import led_to
from shredjoin.pieces import tear
from shredjoin.verdicts import verdict
from tests.things import drawn_numbers, drawn_text, long_text, some_heaps, texts_of, texts_upto


def shuffled(seed, things):
    numbers, left, order = drawn_numbers(seed), list(things), []
    while left:
        order.append(left.pop(next(numbers) % len(left)))
    return order


class Leads(unittest.TestCase):
    def led(self, one, other, long):
        """The words of the deeds that lead from one to the other, each checked."""
        deeds = led_to(one, other, long)
        self.assertIs(type(deeds), tuple)
        self.assertTrue(len(deeds) <= len(one) - long + 1, (one, other, long, deeds))
        text = one
        for deed in deeds:
            self.assertIs(type(deed), tuple)
            text = deed_done(text, long, deed)
        self.assertEqual(text, other)
        if one == other:
            self.assertEqual(deeds, ())
        return [deed[0] for deed in deeds]

    def test_by_swaps_alone(self):
        self.assertEqual(self.led("axayaz", "ayaxaz", 2), ["swap"])
        self.assertEqual(self.led("axbyacb", "acbyaxb", 2), ["swap"])
        self.assertEqual(set(self.led("axayazawaq", "awazayaxaq", 2)), {"swap"})
        self.assertEqual(set(self.led("abcdef", "fedcba", 1)), {"swap"})

    def test_by_a_turn(self):
        self.assertEqual(self.led("abca", "bcab", 2), ["turn"])
        self.assertEqual(self.led("abcab", "cabca", 3), ["turn"])

    def test_by_a_turn_and_swaps(self):
        self.assertEqual(self.led("abacada", "dacabad", 2), ["turn", "swap"])
        self.assertEqual(set(self.led("abacadaea", "cadabaeac", 2)), {"turn", "swap"})

    def test_both_one_text(self):
        for text in ("a", "abca", "abab", "a" * 300, long_text(300)):
            for long in sorted({1, (len(text) + 1) // 2, len(text)}):
                self.assertEqual(self.led(text, text, long), [])

    def test_all_pairs_of_texts_of_small_heaps(self):
        for heap in some_heaps():
            for one, other in itertools.product(texts_of(heap), repeat=2):
                self.led(one, other, len(heap[0][0]))

    def test_small_texts_at_each_long(self):
        for text in texts_upto("ab", 6):
            for long in range(1, len(text) + 1):
                for other in texts_of(tear(text, long)):
                    self.led(text, other, long)

    def test_as_many_deeds_as_may_be_are_enough(self):
        for text in itertools.permutations("abcde"):
            self.led("abcde", "".join(text), 1)

    def test_long_texts_with_many_rounds(self):
        rounds = [one + other for one in "bcdefghi" for other in "jklmnopqrstuvwxyz"]
        for seed in range(6):
            one = "a" + "".join(pair + "a" for pair in shuffled(seed, rounds[:99]))
            other = "a" + "".join(pair + "a" for pair in shuffled(seed + 50, rounds[:99]))
            self.assertTrue(len(self.led(one, other, 2)) > 20)
            turned = deed_done(other, 2, ("turn", 100 + 3 * seed))
            self.assertEqual(self.led(one, turned, 2)[0], "turn")
        for seed in range(4):
            text = drawn_text(seed, 300, "abc")
            self.led(text, "".join(shuffled(seed, text)), 1)
            self.led(text, "".join(sorted(text)), 1)
            for long in (2, 3, 4, 5):
                self.led(text, verdict(tear(text, long))[1], long)
                self.led(verdict(tear(text, long))[1], text, long)

    def test_the_same_each_time(self):
        one, other = "abacadaea", "cadabaeac"
        deeds = led_to(one, other, 2)
        led_to(other, one, 2)
        self.assertEqual(led_to(one, other, 2), deeds)


class AreUnlike(unittest.TestCase):
    def test_heaps_that_are_not_the_same(self):
        for one, other, long in (
            ("ab", "ac", 1), ("aab", "abb", 1), ("abc", "acb", 2), ("abca", "acba", 2), ("abcab", "bcabc", 2),
            ("ab", "ba", 2), ("aba", "bab", 3), ("a" * 300, "a" * 299 + "b", 150),
        ):
            for pair in ((one, other), (other, one)):
                with self.subTest(pair=pair), self.assertRaises(Unlike):
                    led_to(*pair, long)

    def test_unlike_lengths(self):
        for one, other, long in (("a", "aa", 1), ("aaa", "aa", 2), ("abab", "ab", 2), ("abc", "abcabc", 3),
                                 ("a" * 300, "a" * 299, 299), ("a", "a" * 300, 1)):
            for pair in ((one, other), (other, one)):
                with self.subTest(pair=pair), self.assertRaises(Unlike):
                    led_to(*pair, long)

    def test_just_where_the_heaps_are_not_the_same(self):
        texts = list(texts_upto("ab", 4))
        for one, other in itertools.product(texts, repeat=2):
            for long in range(1, min(len(one), len(other)) + 1):
                try:
                    led_to(one, other, long)
                    alike = True
                except Unlike:
                    alike = False
                self.assertIs(alike, tear(one, long) == tear(other, long))


if __name__ == "__main__":
    unittest.main()
