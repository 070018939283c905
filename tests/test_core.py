"""core: how many places the core has; then these, as the graph numbers them, and the core's arrows."""

import unittest

import oracle
from graphcore.folds import core


class OrdinaryGraphs(unittest.TestCase):
    def test_one_place(self):
        self.assertEqual(core(1, []), [1, 0])
        self.assertEqual(core(1, [0, 0]), [1, 0, 0, 0])

    def test_path_of_arrows_is_a_core(self):
        self.assertEqual(core(3, [0, 1, 1, 2]), [3, 0, 1, 2, 0, 1, 1, 2])

    def test_arrows_from_one_place_fall_together(self):
        self.assertEqual(core(4, [0, 1, 0, 2, 0, 3]), [2, 0, 1, 0, 1])

    def test_places_as_in_the_graph_and_arrows_numbered_anew(self):
        self.assertEqual(core(3, [0, 2, 1, 2]), [2, 0, 2, 0, 1])
        self.assertEqual(core(5, [4, 1]), [2, 1, 4, 1, 0])

    def test_all_arrows_between_the_places(self):
        # 0, 1, 2 go round and 3 hangs on: nothing of the three is lost.
        self.assertEqual(core(4, [0, 1, 1, 2, 2, 0, 2, 3]), [3, 0, 1, 2, 0, 1, 1, 2, 2, 0])

    def test_answer_is_a_list_of_whole_numbers(self):
        answer = core(3, [0, 1, 0, 2])
        self.assertIs(type(answer), list)
        self.assertEqual({type(number) for number in answer}, {int})


class NamedEdges(unittest.TestCase):
    def test_arrow_from_a_place_to_itself_then_that_place_alone(self):
        self.assertEqual(core(3, [0, 1, 1, 1, 1, 2]), [1, 1, 0, 0])
        self.assertEqual(core(5, [0, 1, 1, 2, 4, 4]), [1, 4, 0, 0])

    def test_several_arrows_from_places_to_themselves(self):
        self.assertEqual(core(4, [1, 1, 3, 3]), [1, 1, 0, 0])

    def test_every_arrow_there_is(self):
        full = oracle.numbers_of((u, v) for u in range(5) for v in range(5))
        self.assertEqual(core(5, full), [1, 0, 0, 0])

    def test_no_arrows(self):
        for n in range(1, 6):
            self.assertEqual(core(n, []), [1, 0])

    def test_two_parts(self):
        self.assertEqual(core(5, [0, 1, 1, 2, 2, 0, 3, 4]), [3, 0, 1, 2, 0, 1, 1, 2, 2, 0])
        self.assertEqual(core(5, [0, 1, 2, 3, 3, 4, 4, 2]), [3, 2, 3, 4, 0, 1, 1, 2, 2, 0])

    def test_two_parts_that_stay_apart(self):
        first = [0, 1, 1, 0, 2, 3, 3, 4, 4, 2]
        self.assertEqual(core(5, first), [5, 0, 1, 2, 3, 4] + first)

    def test_arrows_both_ways(self):
        self.assertEqual(core(3, oracle.both_ways((0, 1), (1, 2))), [2, 0, 1, 0, 1, 1, 0])
        self.assertEqual(core(4, oracle.both_ways((0, 2), (1, 3), (2, 3))), [2, 0, 2, 0, 1, 1, 0])
        five = oracle.both_ways((0, 1), (1, 2), (2, 3), (3, 4), (4, 0))
        self.assertEqual(core(5, five), [5, 0, 1, 2, 3, 4] + five)

    def test_all_arrows_but_to_themselves(self):
        first = oracle.numbers_of((u, v) for u in range(5) for v in range(5) if u != v)
        self.assertEqual(core(5, first), [5, 0, 1, 2, 3, 4] + first)

    def test_fold_that_turns_what_it_hits(self):
        # The places rise, whatever the order in which the fold gives them.
        self.assertEqual(core(4, [1, 0, 1, 2, 2, 3, 3, 1]), [3, 1, 2, 3, 0, 1, 1, 2, 2, 0])


class WhatHolds(unittest.TestCase):
    def test_same_as_the_meaning_told(self):
        for n, first in oracle.graphs_to_try():
            with self.subTest(n=n, first=first):
                places, arrows = oracle.core_of(n, oracle.arrows_of(first))
                self.assertEqual(core(n, first), [len(places)] + places + oracle.numbers_of(arrows))

    def test_core_and_graph_are_below_one_another(self):
        for n, first in oracle.graphs_to_try():
            with self.subTest(n=n, first=first):
                arrows = oracle.arrows_of(first)
                places, kept = oracle.split_core(core(n, first))
                self.assertTrue(oracle.maps(n, arrows, len(places), kept))
                self.assertTrue(oracle.maps(len(places), kept, n, arrows))

    def test_core_is_a_core(self):
        for n, first in oracle.graphs_to_try():
            with self.subTest(n=n, first=first):
                answer = core(n, first)
                count = answer[0]
                numbers = answer[count + 1:]
                self.assertEqual(core(count, numbers), [count] + list(range(count)) + numbers)

    def test_no_map_hits_fewer(self):
        for n, first in oracle.graphs_to_try():
            with self.subTest(n=n, first=first):
                arrows = oracle.arrows_of(first)
                every = oracle.maps(n, arrows, n, arrows)
                self.assertEqual(core(n, first)[0], min(len(set(gets)) for gets in every))

    def test_into_itself_a_core_goes_by_changed_names_alone(self):
        for n, first in oracle.graphs_to_try():
            with self.subTest(n=n, first=first):
                places, kept = oracle.split_core(core(n, first))
                for gets in oracle.maps(len(places), kept, len(places), kept):
                    self.assertEqual(len(set(gets)), len(places))
                    self.assertEqual({(gets[u], gets[v]) for u, v in kept}, kept)

    def test_some_map_holds_the_core_fast(self):
        for n, first in oracle.graphs_to_try():
            with self.subTest(n=n, first=first):
                arrows = oracle.arrows_of(first)
                places, kept = oracle.split_core(core(n, first))
                self.assertTrue(any(set(gets) == set(places) and all(gets[place] == place for place in places)
                                    for gets in oracle.maps(n, arrows, n, arrows)))


class WrongInputs(unittest.TestCase):
    def test_no_graph(self):
        for why, n, first in oracle.no_graphs():
            with self.subTest(why):
                self.assertEqual(core(n, first), oracle.REFUSED)


class Handed(unittest.TestCase):
    def test_stays_as_it_was(self):
        for n, first in [(4, [1, 0, 1, 2, 2, 3, 3, 1]), (3, []), (3, [1, 0, 0, 1]), (3, [0, 1, 2])]:
            handed = oracle.Untouchable(first)
            core(n, handed)
            self.assertEqual(handed, first)

    def test_each_call_by_itself(self):
        handed = [1, 0, 1, 2, 2, 3, 3, 1]
        answer = core(4, handed)
        answer.clear()
        handed.clear()
        self.assertEqual(core(3, [0, 1, 0]), oracle.REFUSED)
        self.assertEqual(core(4, [1, 0, 1, 2, 2, 3, 3, 1]), [3, 1, 2, 3, 0, 1, 1, 2, 2, 0])

    def test_named_arguments(self):
        self.assertEqual(core(n=3, first=[0, 1, 0, 2]), [2, 0, 1, 0, 1])


if __name__ == "__main__":
    unittest.main()
