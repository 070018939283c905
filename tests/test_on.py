"""on: how many places; then the arrows between these places, which are numbered anew as they rise."""

import unittest

import oracle
from graphcore.folds import core, on

TURNING = [1, 0, 1, 2, 2, 3, 3, 1]


class OrdinaryGraphs(unittest.TestCase):
    def test_one_place(self):
        self.assertEqual(on(1, [], [0]), [1])
        self.assertEqual(on(1, [0, 0], [0]), [1, 0, 0])

    def test_arrows_numbered_anew(self):
        self.assertEqual(on(4, TURNING, [1, 2, 3]), [3, 0, 1, 1, 2, 2, 0])
        self.assertEqual(on(5, [0, 4, 2, 4, 4, 2], [2, 4]), [2, 0, 1, 1, 0])
        self.assertEqual(on(5, [4, 1], [1, 3, 4]), [3, 2, 0])

    def test_only_arrows_with_both_ends_among_the_places(self):
        self.assertEqual(on(4, TURNING, [0, 1]), [2, 1, 0])
        self.assertEqual(on(4, TURNING, [1, 3]), [2, 1, 0])
        self.assertEqual(on(3, [0, 1, 1, 2, 2, 0], [0, 1]), [2, 0, 1])

    def test_all_places(self):
        self.assertEqual(on(4, TURNING, [0, 1, 2, 3]), [4] + TURNING)
        self.assertEqual(on(3, [], [0, 1, 2]), [3])

    def test_single_place(self):
        self.assertEqual([on(4, TURNING, [place]) for place in range(4)], [[1]] * 4)
        self.assertEqual(on(5, [], [4]), [1])

    def test_places_without_an_arrow_between_them(self):
        self.assertEqual(on(4, TURNING, [0, 2]), [2])
        self.assertEqual(on(4, TURNING, [0, 3]), [2])
        self.assertEqual(on(5, [0, 1, 1, 2, 2, 3, 3, 4], [0, 2, 4]), [3])

    def test_answer_is_a_list_of_whole_numbers(self):
        for n, first, places, count in [(4, TURNING, [1, 2], 3), (3, [0], [0], 1), (3, [0, 1], [], 1)]:
            answer = on(n, first, places)
            self.assertIs(type(answer), list)
            self.assertEqual([type(number) for number in answer], [int] * count)


class NamedEdges(unittest.TestCase):
    def test_arrow_from_a_place_to_itself(self):
        first = [0, 1, 1, 1, 1, 2, 3, 3]
        self.assertEqual(on(4, first, [1]), [1, 0, 0])
        self.assertEqual(on(4, first, [0]), [1])
        self.assertEqual(on(4, first, [2, 3]), [2, 1, 1])
        self.assertEqual(on(4, first, [1, 3]), [2, 0, 0, 1, 1])

    def test_every_arrow_there_is(self):
        full = [oracle.numbers_of((u, v) for u in range(n) for v in range(n)) for n in range(6)]
        for places in oracle.choices_of_places(5):
            self.assertEqual(on(5, full[5], places), [len(places)] + full[len(places)])

    def test_no_arrows(self):
        for n in range(1, 6):
            for places in oracle.choices_of_places(n):
                self.assertEqual(on(n, [], places), [len(places)])

    def test_two_parts(self):
        first = [0, 1, 1, 0, 2, 3, 3, 4, 4, 2]
        self.assertEqual(on(5, first, [0, 1]), [2, 0, 1, 1, 0])
        self.assertEqual(on(5, first, [2, 3, 4]), [3, 0, 1, 1, 2, 2, 0])
        self.assertEqual(on(5, first, [1, 3, 4]), [3, 1, 2])
        self.assertEqual(on(5, first, [1, 4]), [2])

    def test_arrows_both_ways(self):
        five = oracle.both_ways((0, 1), (1, 2), (2, 3), (3, 4), (4, 0))
        self.assertEqual(on(5, five, [0, 3, 4]), [3] + oracle.both_ways((0, 2), (1, 2)))
        self.assertEqual(on(5, five, [1, 3]), [2])

    def test_fold_that_turns_what_it_hits(self):
        # The fold gives 1, 3, 1, 2: the places are told as they rise all the same.
        self.assertEqual(on(4, TURNING, [1, 2, 3]), [3, 0, 1, 1, 2, 2, 0])
        self.assertEqual(on(4, TURNING, [1, 3, 2]), oracle.REFUSED)


class WhatHolds(unittest.TestCase):
    def test_same_as_the_meaning_told(self):
        for n, first in oracle.graphs_to_try():
            for places in oracle.choices_of_places(n):
                with self.subTest(n=n, first=first, places=places):
                    self.assertEqual(on(n, first, places), oracle.on_of(first, places))

    def test_all_places_tell_the_graph(self):
        for n, first in oracle.graphs_to_try():
            with self.subTest(n=n, first=first):
                self.assertEqual(on(n, first, list(range(n))), [n] + first)

    def test_the_cores_places_tell_the_cores_arrows(self):
        for n, first in oracle.graphs_to_try():
            with self.subTest(n=n, first=first):
                answer = core(n, first)
                count = answer[0]
                self.assertEqual(on(n, first, answer[1:count + 1]), [count] + answer[count + 1:])

    def test_what_is_told_is_a_graph(self):
        for n, first in oracle.graphs_to_try():
            for places in oracle.choices_of_places(n):
                with self.subTest(n=n, first=first, places=places):
                    answer = on(n, first, places)
                    self.assertEqual(on(len(places), answer[1:], list(range(len(places)))), answer)


class WrongInputs(unittest.TestCase):
    def test_no_graph(self):
        for why, n, first in oracle.no_graphs():
            for places in ([0], [0, 1], [0, 1, 2, 3, 4]):
                with self.subTest(why, places=places):
                    self.assertEqual(on(n, first, places), oracle.REFUSED)

    def test_no_places(self):
        for why, n, places in oracle.no_places():
            for first in ([], [0, 0], oracle.numbers_of((u, v) for u in range(n) for v in range(n))):
                with self.subTest(why, n=n, first=first):
                    self.assertEqual(on(n, first, places), oracle.REFUSED)

    def test_neither_a_graph_nor_places(self):
        for why, n, first in oracle.no_graphs():
            for other_why, count, places in oracle.no_places():
                with self.subTest(why, places=other_why):
                    self.assertEqual(on(n, first, places), oracle.REFUSED)

    def test_places_of_too_large_a_graph(self):
        self.assertEqual(on(6, [], [5]), oracle.REFUSED)
        self.assertEqual(on(oracle.LARGEST, [], [oracle.LARGEST - 1]), oracle.REFUSED)


class Handed(unittest.TestCase):
    def test_stays_as_it_was(self):
        for n, first in [(4, TURNING), (3, []), (3, [1, 0, 0, 1]), (3, [0, 1, 2])]:
            for places in ([0, 1, 2], [1], [], [2, 1], [1, 1], [0, 7]):
                handed, chosen = oracle.Untouchable(first), oracle.Untouchable(places)
                on(n, handed, chosen)
                self.assertEqual(handed, first)
                self.assertEqual(chosen, places)

    def test_each_call_by_itself(self):
        handed, chosen = [0, 1, 1, 2], [1, 2]
        answer = on(3, handed, chosen)
        answer.clear()
        handed.clear()
        chosen.clear()
        self.assertEqual(on(3, [0, 1, 0], [1]), oracle.REFUSED)
        self.assertEqual(on(3, [], [1, 2]), [2])
        self.assertEqual(on(3, [0, 1, 1, 2], [1, 2]), [2, 0, 1])

    def test_one_list_handed_in_as_both(self):
        both = [0, 1]
        self.assertEqual(on(2, both, both), [2, 0, 1])
        self.assertEqual(both, [0, 1])

    def test_named_arguments(self):
        self.assertEqual(on(places=[1, 2], first=[1, 2], n=3), [2, 0, 1])


if __name__ == "__main__":
    unittest.main()
