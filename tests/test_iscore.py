"""iscore: 1 if the graph is a core, else 0."""

import unittest

import oracle
from graphcore.folds import core, iscore


class OrdinaryGraphs(unittest.TestCase):
    def test_one_place(self):
        self.assertEqual(iscore(1, []), [1])
        self.assertEqual(iscore(1, [0, 0]), [1])

    def test_paths_of_arrows(self):
        self.assertEqual(iscore(2, [0, 1]), [1])
        self.assertEqual(iscore(3, [0, 1, 1, 2]), [1])
        self.assertEqual(iscore(5, [0, 1, 1, 2, 2, 3, 3, 4]), [1])

    def test_arrows_from_one_place_fall_together(self):
        self.assertEqual(iscore(3, [0, 1, 0, 2]), [0])
        self.assertEqual(iscore(4, [0, 1, 0, 2, 0, 3]), [0])

    def test_arrows_to_one_place_fall_together(self):
        self.assertEqual(iscore(3, [0, 2, 1, 2]), [0])

    def test_cycles_of_arrows(self):
        self.assertEqual(iscore(3, [0, 1, 1, 2, 2, 0]), [1])
        self.assertEqual(iscore(4, [0, 1, 1, 2, 2, 3, 3, 0]), [1])
        self.assertEqual(iscore(5, [0, 1, 1, 2, 2, 3, 3, 4, 4, 0]), [1])

    def test_something_hangs_on(self):
        self.assertEqual(iscore(4, [0, 1, 1, 2, 2, 0, 2, 3]), [0])

    def test_a_place_without_arrows(self):
        self.assertEqual(iscore(3, [0, 1]), [0])

    def test_one_less_is_hit_than_there_are(self):
        # 3 alone goes along with 2; the rest stays.
        self.assertEqual(iscore(5, [0, 1, 1, 2, 1, 3, 2, 4, 3, 4]), [0])

    def test_answer_is_a_list_of_one_whole_number(self):
        for n, first in [(3, [0, 1, 1, 2]), (3, [0, 1, 0, 2]), (3, [0])]:
            answer = iscore(n, first)
            self.assertIs(type(answer), list)
            self.assertEqual([type(number) for number in answer], [int])


class NamedEdges(unittest.TestCase):
    def test_arrow_from_a_place_to_itself(self):
        self.assertEqual(iscore(2, [0, 0]), [0])
        self.assertEqual(iscore(2, [0, 1, 1, 1]), [0])
        self.assertEqual(iscore(3, [0, 1, 1, 1, 1, 2]), [0])
        self.assertEqual(iscore(5, [0, 1, 1, 2, 2, 3, 3, 4, 4, 0, 4, 4]), [0])

    def test_several_arrows_from_places_to_themselves(self):
        self.assertEqual(iscore(2, [0, 0, 1, 1]), [0])
        self.assertEqual(iscore(5, oracle.numbers_of((k, k) for k in range(5))), [0])

    def test_every_arrow_there_is(self):
        self.assertEqual(iscore(5, oracle.numbers_of((u, v) for u in range(5) for v in range(5))), [0])

    def test_no_arrows(self):
        self.assertEqual([iscore(n, []) for n in range(1, 6)], [[1], [0], [0], [0], [0]])

    def test_two_parts(self):
        self.assertEqual(iscore(4, [0, 1, 2, 3]), [0])
        self.assertEqual(iscore(5, [0, 1, 1, 2, 2, 0, 3, 4]), [0])
        self.assertEqual(iscore(5, [0, 1, 2, 3, 3, 4, 4, 2]), [0])

    def test_two_parts_that_stay_apart(self):
        self.assertEqual(iscore(5, [0, 1, 1, 0, 2, 3, 3, 4, 4, 2]), [1])

    def test_arrows_both_ways(self):
        self.assertEqual(iscore(2, [0, 1, 1, 0]), [1])
        self.assertEqual(iscore(3, oracle.both_ways((0, 1), (1, 2))), [0])
        self.assertEqual(iscore(3, oracle.both_ways((0, 1), (1, 2), (2, 0))), [1])
        self.assertEqual(iscore(4, oracle.both_ways((0, 1), (1, 2), (2, 3), (3, 0))), [0])
        self.assertEqual(iscore(5, oracle.both_ways((0, 1), (1, 2), (2, 3), (3, 4), (4, 0))), [1])

    def test_all_arrows_but_to_themselves(self):
        for n in range(1, 6):
            first = oracle.numbers_of((u, v) for u in range(n) for v in range(n) if u != v)
            self.assertEqual(iscore(n, first), [1])

    def test_fold_that_turns_what_it_hits(self):
        # 1, 2, 3 go round, and 0 goes along with 2: the fold turns the three, and still leaves 0 out.
        self.assertEqual(iscore(4, [1, 0, 1, 2, 2, 3, 3, 1]), [0])


class WhatHolds(unittest.TestCase):
    def test_same_as_the_meaning_told(self):
        for n, first in oracle.graphs_to_try():
            with self.subTest(n=n, first=first):
                self.assertEqual(iscore(n, first), [int(len(set(oracle.fold_of(n, oracle.arrows_of(first)))) == n)])

    def test_core_is_a_core(self):
        for n, first in oracle.graphs_to_try():
            with self.subTest(n=n, first=first):
                answer = core(n, first)
                self.assertEqual(iscore(answer[0], answer[answer[0] + 1:]), [1])

    def test_a_core_and_no_other_goes_into_itself_by_changed_names_alone(self):
        for n, first in oracle.graphs_to_try():
            with self.subTest(n=n, first=first):
                arrows = oracle.arrows_of(first)
                changed = [len(set(gets)) == n and {(gets[u], gets[v]) for u, v in arrows} == arrows
                           for gets in oracle.maps(n, arrows, n, arrows)]
                self.assertEqual(iscore(n, first), [int(all(changed))])


class WrongInputs(unittest.TestCase):
    def test_no_graph(self):
        for why, n, first in oracle.no_graphs():
            with self.subTest(why):
                self.assertEqual(iscore(n, first), oracle.REFUSED)


class Handed(unittest.TestCase):
    def test_stays_as_it_was(self):
        for n, first in [(4, [1, 0, 1, 2, 2, 3, 3, 1]), (3, []), (3, [1, 0, 0, 1]), (3, [0, 1, 2])]:
            handed = oracle.Untouchable(first)
            iscore(n, handed)
            self.assertEqual(handed, first)

    def test_each_call_by_itself(self):
        handed = [0, 1, 1, 2]
        answer = iscore(3, handed)
        answer.clear()
        handed.clear()
        self.assertEqual(iscore(3, [0, 1, 0]), oracle.REFUSED)
        self.assertEqual(iscore(3, []), [0])
        self.assertEqual(iscore(3, [0, 1, 1, 2]), [1])

    def test_named_arguments(self):
        self.assertEqual(iscore(n=3, first=[0, 1, 0, 2]), [0])


if __name__ == "__main__":
    unittest.main()
