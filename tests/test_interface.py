"""The interface: the names and arguments of all stages, and that nothing handed in is changed."""

import copy
import inspect
import unittest

from shredjoin import (
    bags, counts, exchanges, fills, leads, lines, nets, parts, pieces, ranks, sures, tables, verdicts, ways)

NAMES = (
    (pieces, "is_text", ["thing"]),
    (pieces, "is_heap", ["thing"]),
    (pieces, "tear", ["T", "long"]),
    (pieces, "heap_of", ["pieces"]),
    (pieces, "heaped", ["one", "other"]),
    (pieces, "less_one", ["H", "piece"]),
    (pieces, "size_of", ["H"]),
    (lines, "show_heap", ["H"]),
    (lines, "read_heap", ["line"]),
    (nets, "points_of", ["H"]),
    (nets, "outs_of", ["H", "P"]),
    (nets, "ins_of", ["H", "P"]),
    (nets, "nexts_of", ["H", "P"]),
    (nets, "begins_of", ["H"]),
    (nets, "ends_of", ["H"]),
    (parts, "part_of", ["H"]),
    (parts, "hangs", ["H"]),
    (ways, "way_of", ["ties", "begin"]),
    (verdicts, "verdict", ["H"]),
    (tables, "worth_of", ["table"]),
    (counts, "trees_of", ["H", "root"]),
    (counts, "count_from", ["H", "P"]),
    (counts, "count_of", ["H"]),
    (ranks, "text_at", ["H", "number"]),
    (ranks, "number_of", ["T", "long"]),
    (exchanges, "deed_done", ["T", "long", "deed"]),
    (exchanges, "change_of", ["T", "long"]),
    (exchanges, "is_only", ["T", "long"]),
    (leads, "led_to", ["one", "other", "long"]),
    (sures, "sure_long", ["T"]),
    (sures, "behind_of", ["H", "piece"]),
    (sures, "ahead_of", ["H", "piece"]),
    (sures, "stretch_of", ["H", "piece"]),
    (fills, "letters_to", ["one", "other"]),
    (fills, "filled", ["H"]),
    (bags, "Bag", ["long"]),
    (bags.Bag, "put", ["self", "piece", "many"]),
    (bags.Bag, "take", ["self", "piece", "many"]),
    (bags.Bag, "as_heap", ["self"]),
    (bags.Bag, "verdict_now", ["self"]),
    (bags.Bag, "texts_now", ["self"]),
)


class Names(unittest.TestCase):
    def test_each_function_takes_the_arguments_that_are_told(self):
        for module, name, arguments in NAMES:
            with self.subTest(name=name):
                signature = inspect.signature(getattr(module, name))
                self.assertEqual(list(signature.parameters), arguments)

    def test_a_piece_is_put_and_taken_once_where_no_many_is_told(self):
        for method in (bags.Bag.put, bags.Bag.take):
            self.assertEqual(inspect.signature(method).parameters["many"].default, 1)


class NothingIsChanged(unittest.TestCase):
    def kept(self, thing, call):
        before = copy.deepcopy(thing)
        try:
            call(thing)
        except ValueError:
            pass
        self.assertEqual(thing, before)
        self.assertIs(type(thing), type(before))

    def test_lists_stay_as_they_were(self):
        for row in (["ba", "ab", "ba"], ["b", "a"], [], ["ab", "c"], ["ab", None], ["b"] * 301, [["ab", 2], ["ba", 1]]):
            for call in (pieces.is_text, pieces.is_heap, pieces.heap_of, lines.read_heap):
                with self.subTest(row=row, call=call):
                    self.kept(row, call)
            self.kept(row, lambda thing: pieces.tear(thing, 2))
            self.kept(row, lambda thing: pieces.tear("ab", thing))

    def test_dicts_stay_as_they_were(self):
        for thing in ({"ab": 2}, {}):
            for call in (pieces.is_text, pieces.is_heap, pieces.heap_of, lines.read_heap):
                self.kept(thing, call)

    def test_a_list_within_a_tuple_stays_as_it_was(self):
        self.kept((["ab", 1], ["ba", 1]), pieces.is_heap)
        self.kept((["ba", "ab"],), pieces.heap_of)


class SameEachTime(unittest.TestCase):
    def test_a_second_call_answers_the_same(self):
        one, other = pieces.tear("abab", 2), pieces.tear("bcab", 2)
        for call in (
            lambda: pieces.tear("cabcab", 2),
            lambda: pieces.heap_of(["c", "a", "b", "a"]),
            lambda: pieces.heaped(one, other),
            lambda: pieces.less_one(one, "ab"),
            lambda: lines.show_heap(one),
            lambda: lines.read_heap("ab*2 ba"),
            lambda: verdicts.verdict(pieces.tear("abacada", 2)),
            lambda: ways.way_of([("a", "", "a"), ("a", "", "b"), ("b", "", "a")], "a"),
            lambda: exchanges.change_of("axayaz", 2),
            lambda: leads.led_to("abacada", "dacabad", 2),
            lambda: sures.sure_long("abcab"),
            lambda: sures.behind_of(pieces.tear("abacada", 2), "ab"),
            lambda: sures.ahead_of(pieces.tear("abacada", 2), "ab"),
            lambda: fills.filled((("ab", 2), ("ad", 1), ("cb", 1), ("cd", 3))),
        ):
            self.assertEqual(call(), call())

    def test_a_row_that_is_changed_afterwards_does_not_change_the_heap(self):
        row = ["b", "a"]
        heap = pieces.heap_of(row)
        row.append("c")
        self.assertEqual(heap, (("a", 1), ("b", 1)))


if __name__ == "__main__":
    unittest.main()
