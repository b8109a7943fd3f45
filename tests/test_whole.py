"""Point 3: over all modules together, what is told of one text agrees."""

import unittest

from shredjoin.bags import Bag
from shredjoin.counts import count_from, count_of
from shredjoin.errors import Apart, NoNumber, Unlike
from shredjoin.exchanges import change_of, deed_done, is_only
from shredjoin.fills import filled, letters_to
from shredjoin.leads import led_to
from shredjoin.lines import read_heap, show_heap
from shredjoin.nets import begins_of, ends_of, points_of
from shredjoin.parts import hangs
from shredjoin.pieces import heap_of, is_heap, less_one, size_of, tear
from shredjoin.ranks import number_of, text_at
from shredjoin.sures import ahead_of, behind_of, stretch_of, sure_long
from shredjoin.verdicts import verdict
from tests.things import drawn_numbers, drawn_text


def drawn_cases():
    """Pairs (text, long) whose heaps have at most 12 points and 30 pieces."""
    numbers = drawn_numbers(11)
    for seed in range(160):
        letters = "abcdefghijkl"[:next(numbers) % 11 + 1]
        long = next(numbers) % 4 + 1
        text = drawn_text(seed, long + next(numbers) % 30, letters)
        if len(points_of(tear(text, long))) <= 12:
            yield text, long


CASES = list(drawn_cases())


class Whole(unittest.TestCase):
    def test_there_are_enough_of_all_kinds(self):
        closed = sum(begins_of(tear(text, long)) == () for text, long in CASES)
        only = sum(is_only(text, long) for text, long in CASES)
        self.assertTrue(len(CASES) > 100 and closed > 30 and only > 15 and len(CASES) - only > 50)

    def test_torn_and_joined(self):
        for text, long in CASES:
            heap = tear(text, long)
            self.assertTrue(is_heap(heap) and hangs(heap))
            self.assertEqual(read_heap(show_heap(heap)), heap)
            self.assertEqual(heap_of([text[k:k + long] for k in range(size_of(heap))][::-1]), heap)
            word, other = verdict(heap)
            self.assertEqual(word, "text")
            self.assertEqual(tear(other, long), heap)
            if begins_of(heap):
                self.assertEqual((begins_of(heap)[0][0], ends_of(heap)[0][0]), (other[:long - 1], other[1 - long:]))

    def test_counts_and_numbers(self):
        for text, long in CASES:
            heap = tear(text, long)
            count, number = count_of(heap), number_of(text, long)
            self.assertEqual(count, sum(count_from(heap, point) for point in points_of(heap)))
            self.assertTrue(0 <= number < count)
            self.assertEqual(text_at(heap, number), text)
            step = count // 20 + 1
            told = [text_at(heap, k) for k in range(0, count, step)]
            self.assertEqual(told, sorted(set(told)))
            self.assertEqual([number_of(other, long) for other in told], list(range(0, count, step)))
            with self.assertRaises(NoNumber):
                text_at(heap, count)

    def test_changes_and_leads(self):
        for text, long in CASES:
            heap = tear(text, long)
            count, change = count_of(heap), change_of(text, long)
            self.assertIs(is_only(text, long), count == 1)
            self.assertIs(change is None, count == 1)
            if change is not None:
                other = deed_done(text, long, change)
                self.assertNotEqual(number_of(other, long), number_of(text, long))
            for goal in (verdict(heap)[1], text_at(heap, 0), text_at(heap, count - 1), text_at(heap, count // 2)):
                here = text
                for deed in led_to(text, goal, long):
                    here = deed_done(here, long, deed)
                    self.assertEqual(tear(here, long), heap)
                self.assertEqual(here, goal)
            with self.assertRaises(Unlike):
                led_to(text, text + "z", long)

    def test_the_sure_long(self):
        for text, long in CASES:
            sure, other = sure_long(text)
            self.assertTrue(all(is_only(text, k) for k in range(sure, len(text) + 1)))
            for k in range(max(sure, len(text) - 10), len(text) + 1):
                self.assertEqual(verdict(tear(text, k)), ("text", text))
            if sure > 1:
                self.assertNotEqual(led_to(text, other, sure - 1), ())
                self.assertEqual(tear(other, sure - 1), tear(text, sure - 1))

    def test_what_is_sure(self):
        for text, long in CASES:
            heap = tear(text, long)
            for place in range(0, size_of(heap), 5):
                piece = text[place:place + long]
                behind, ahead = dict(behind_of(heap, piece)), dict(ahead_of(heap, piece))
                self.assertIn(text[place + long:][:1], behind)
                self.assertIn(text[:place][-1:], ahead)
                for other in list(behind.values()) + list(ahead.values()):
                    self.assertEqual(tear(other, long), heap)
                    self.assertIn(stretch_of(heap, piece), other)
                self.assertIn(piece, stretch_of(heap, piece))
                if is_only(text, long) and dict(heap)[piece] == 1:
                    self.assertEqual((len(behind), len(ahead)), (1, 1))

    def test_filled_up(self):
        for text, long in CASES:
            heap = tear(text, long)
            self.assertEqual(tear(filled(heap)[0], long), heap)
            for place in range(0, size_of(heap), 4):
                lost = less_one(heap, text[place:place + long])
                if lost == ():
                    continue
                if not hangs(lost):
                    with self.assertRaises(Apart):
                        filled(lost)
                    continue
                other, ends, begins = filled(lost)
                self.assertTrue(size_of(lost) + long - 1 <= len(other) <= len(text))
                for end, price in ends:
                    for begin, worth in begins:
                        self.assertTrue(price + worth <= letters_to(end, begin))

    def test_bags(self):
        for text, long in CASES:
            heap, bag = tear(text, long), Bag(long)
            for piece, many in heap:
                bag.put(piece, many)
            self.assertEqual((bag.as_heap(), bag.verdict_now(), bag.texts_now()), (heap, verdict(heap), count_of(heap)))
            bag.take(text[:long])
            self.assertEqual(bag.as_heap(), less_one(heap, text[:long]))


if __name__ == "__main__":
    unittest.main()
