"""fold: how many places; then the first map into itself by which the fewest places are hit."""

import unittest

import oracle
from graphcore.folds import fold


class OrdinaryGraphs(unittest.TestCase):
    def test_one_place(self):
        self.assertEqual(fold(1, []), [1, 0])
        self.assertEqual(fold(1, [0, 0]), [1, 0])

    def test_path_of_arrows_is_its_own_fold(self):
        self.assertEqual(fold(3, [0, 1, 1, 2]), [3, 0, 1, 2])

    def test_arrows_from_one_place_fall_together(self):
        self.assertEqual(fold(4, [0, 1, 0, 2, 0, 3]), [4, 0, 1, 1, 1])

    def test_cycle_of_four_arrows_is_its_own_fold(self):
        self.assertEqual(fold(4, [0, 1, 1, 2, 2, 3, 3, 0]), [4, 0, 1, 2, 3])

    def test_first_of_several(self):
        # 1 and 2 may both go to 1, or both to 2.
        self.assertEqual(fold(3, [0, 1, 0, 2]), [3, 0, 1, 1])

    def test_fewest_hit_goes_before_first_in_order(self):
        # Each place getting itself comes first in order, but hits more.
        self.assertEqual(fold(3, [0, 2, 1, 2]), [3, 0, 0, 2])
        self.assertEqual(fold(3, [1, 2]), [3, 1, 1, 2])

    def test_answer_is_a_list_of_whole_numbers(self):
        answer = fold(3, [0, 1, 0, 2])
        self.assertIs(type(answer), list)
        self.assertEqual({type(number) for number in answer}, {int})


class NamedEdges(unittest.TestCase):
    def test_arrow_from_a_place_to_itself(self):
        self.assertEqual(fold(3, [0, 1, 1, 1, 1, 2]), [3, 1, 1, 1])
        self.assertEqual(fold(5, [0, 1, 1, 2, 4, 4]), [5, 4, 4, 4, 4, 4])

    def test_several_arrows_from_places_to_themselves(self):
        self.assertEqual(fold(4, [1, 1, 3, 3]), [4, 1, 1, 1, 1])

    def test_every_arrow_there_is(self):
        full = oracle.numbers_of((u, v) for u in range(5) for v in range(5))
        self.assertEqual(len(full), 50)
        self.assertEqual(fold(5, full), [5, 0, 0, 0, 0, 0])

    def test_no_arrows(self):
        for n in range(1, 6):
            self.assertEqual(fold(n, []), [n] + [0] * n)

    def test_two_parts(self):
        self.assertEqual(fold(5, [0, 1, 1, 2, 2, 0, 3, 4]), [5, 0, 1, 2, 0, 1])
        self.assertEqual(fold(5, [0, 1, 2, 3, 3, 4, 4, 2]), [5, 2, 3, 2, 3, 4])

    def test_two_parts_that_stay_apart(self):
        # A cycle of two arrows and one of three: neither goes into the other.
        self.assertEqual(fold(5, [0, 1, 1, 0, 2, 3, 3, 4, 4, 2]), [5, 0, 1, 2, 3, 4])

    def test_arrows_both_ways(self):
        self.assertEqual(fold(3, oracle.both_ways((0, 1), (1, 2))), [3, 0, 1, 0])
        self.assertEqual(fold(4, oracle.both_ways((0, 1), (1, 2), (2, 3), (3, 0))), [4, 0, 1, 0, 1])
        five = oracle.both_ways((0, 1), (1, 2), (2, 3), (3, 4), (4, 0))
        self.assertEqual(fold(5, five), [5, 0, 1, 2, 3, 4])

    def test_fold_that_turns_what_it_hits(self):
        # 1, 2, 3 go round, and 0 goes along with 2: the first fold gives 0 the least of the three.
        self.assertEqual(fold(4, [1, 0, 1, 2, 2, 3, 3, 1]), [4, 1, 3, 1, 2])


class WhatHolds(unittest.TestCase):
    def test_same_as_the_meaning_told(self):
        for n, first in oracle.graphs_to_try():
            with self.subTest(n=n, first=first):
                self.assertEqual(fold(n, first), [n] + oracle.fold_of(n, oracle.arrows_of(first)))

    def test_it_is_a_map_and_none_hits_fewer(self):
        for n, first in oracle.graphs_to_try():
            with self.subTest(n=n, first=first):
                arrows = oracle.arrows_of(first)
                gets = tuple(fold(n, first)[1:])
                every = oracle.maps(n, arrows, n, arrows)
                self.assertIn(gets, every)
                self.assertEqual(len(set(gets)), min(len(set(other)) for other in every))


class WrongInputs(unittest.TestCase):
    def test_no_graph(self):
        for why, n, first in oracle.no_graphs():
            with self.subTest(why):
                self.assertEqual(fold(n, first), oracle.REFUSED)


class Handed(unittest.TestCase):
    def test_stays_as_it_was(self):
        for n, first in [(4, [1, 0, 1, 2, 2, 3, 3, 1]), (3, []), (3, [1, 0, 0, 1]), (3, [0, 1, 2])]:
            handed = oracle.Untouchable(first)
            fold(n, handed)
            self.assertEqual(handed, first)

    def test_each_call_by_itself(self):
        handed = [1, 0, 1, 2, 2, 3, 3, 1]
        answer = fold(4, handed)
        answer.clear()
        handed.clear()
        self.assertEqual(fold(3, [0, 1, 0]), oracle.REFUSED)
        self.assertEqual(fold(4, [1, 0, 1, 2, 2, 3, 3, 1]), [4, 1, 3, 1, 2])

    def test_named_arguments(self):
        self.assertEqual(fold(n=3, first=[0, 1, 0, 2]), [3, 0, 1, 1])


if __name__ == "__main__":
    unittest.main()
