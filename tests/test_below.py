"""below: 1 if the first graph is below the second, else 0; then 1 if the second is below the first, else 0."""

import unittest

import oracle
from graphcore.folds import below, core

ROUND_OF_TWO = [0, 1, 1, 0]
ROUND_OF_THREE = [0, 1, 1, 2, 2, 0]
ROUND_OF_FOUR = [0, 1, 1, 2, 2, 3, 3, 0]
TURNING = [1, 0, 1, 2, 2, 3, 3, 1]


class BothWaysRound(unittest.TestCase):
    def check(self, n, m, first, second, answer):
        """Asks both ways round, so that neither n and m nor the two answers may be mistaken for one another."""
        self.assertEqual(below(n, m, first, second), answer)
        self.assertEqual(below(m, n, second, first), answer[::-1])


class OrdinaryGraphs(BothWaysRound):
    def test_one_place(self):
        self.check(1, 1, [], [], [1, 1])
        self.check(1, 1, [0, 0], [0, 0], [1, 1])
        self.check(1, 1, [], [0, 0], [1, 0])

    def test_shorter_path_into_longer(self):
        self.check(2, 3, [0, 1], [0, 1, 1, 2], [1, 0])
        self.check(4, 5, [0, 1, 1, 2, 2, 3], [0, 1, 1, 2, 2, 3, 3, 4], [1, 0])

    def test_path_into_what_goes_round(self):
        self.check(5, 2, [0, 1, 1, 2, 2, 3, 3, 4], ROUND_OF_TWO, [1, 0])

    def test_longer_round_into_shorter(self):
        self.check(4, 2, ROUND_OF_FOUR, ROUND_OF_TWO, [1, 0])

    def test_neither(self):
        self.check(2, 3, ROUND_OF_TWO, ROUND_OF_THREE, [0, 0])
        self.check(3, 4, ROUND_OF_THREE, ROUND_OF_FOUR, [0, 0])

    def test_both_though_not_the_same(self):
        self.check(2, 4, [0, 1], [0, 1, 0, 2, 0, 3], [1, 1])
        self.check(2, 3, [1, 0], [0, 2, 1, 2], [1, 1])

    def test_same_but_for_names(self):
        self.check(3, 3, ROUND_OF_THREE, [0, 2, 1, 0, 2, 1], [1, 1])
        self.check(5, 5, [4, 1], [0, 3], [1, 1])

    def test_way_of_an_arrow_counts(self):
        self.check(3, 3, [0, 1, 0, 2, 1, 2], ROUND_OF_THREE, [0, 0])

    def test_answer_is_a_list_of_whole_numbers(self):
        for n, m, first, second, count in [(2, 3, [0, 1], [0, 1, 1, 2], 2), (2, 3, [0], [], 1)]:
            answer = below(n, m, first, second)
            self.assertIs(type(answer), list)
            self.assertEqual([type(number) for number in answer], [int] * count)


class NamedEdges(BothWaysRound):
    def test_arrow_from_a_place_to_itself(self):
        self.check(5, 1, oracle.both_ways((0, 1), (1, 2), (3, 4)), [0, 0], [1, 0])
        self.check(1, 5, [0, 0], [0, 1, 1, 2, 4, 4], [1, 1])
        self.check(3, 2, ROUND_OF_THREE, [0, 1, 1, 1], [1, 0])

    def test_every_arrow_there_is(self):
        full = oracle.numbers_of((u, v) for u in range(5) for v in range(5))
        self.check(5, 5, full, full, [1, 1])
        self.check(5, 1, full, [0, 0], [1, 1])
        self.check(5, 1, full, [], [0, 1])

    def test_no_arrows(self):
        for n in range(1, 6):
            for m in range(1, 6):
                self.check(n, m, [], [], [1, 1])
        self.check(5, 2, [], [0, 1], [1, 0])
        self.check(1, 2, [], [0, 1], [1, 0])

    def test_two_parts(self):
        self.check(5, 3, [0, 1, 1, 2, 2, 0, 3, 4], ROUND_OF_THREE, [1, 1])
        self.check(4, 2, [0, 1, 2, 3], [0, 1], [1, 1])

    def test_two_parts_that_stay_apart(self):
        apart = [0, 1, 1, 0, 2, 3, 3, 4, 4, 2]
        self.check(5, 2, apart, ROUND_OF_TWO, [0, 1])
        self.check(5, 3, apart, ROUND_OF_THREE, [0, 1])

    def test_arrows_both_ways(self):
        five = oracle.both_ways((0, 1), (1, 2), (2, 3), (3, 4), (4, 0))
        four = oracle.both_ways((0, 1), (1, 2), (2, 3), (3, 0))
        three = oracle.both_ways((0, 1), (1, 2), (2, 0))
        self.check(5, 3, five, three, [1, 0])
        self.check(5, 4, five, four, [0, 1])
        self.check(4, 2, four, ROUND_OF_TWO, [1, 1])
        self.check(3, 3, ROUND_OF_THREE, three, [1, 0])

    def test_all_arrows_but_to_themselves(self):
        whole = [oracle.numbers_of((u, v) for u in range(n) for v in range(n) if u != v) for n in range(6)]
        for n in range(1, 5):
            self.check(n, n + 1, whole[n], whole[n + 1], [1, 0])

    def test_fold_that_turns_what_it_hits(self):
        self.check(4, 3, TURNING, ROUND_OF_THREE, [1, 1])
        self.check(4, 4, TURNING, ROUND_OF_FOUR, [0, 0])

    def test_two_cores_of_as_many_places_that_are_not_the_same(self):
        self.check(3, 3, [0, 1, 1, 2], ROUND_OF_THREE, [1, 0])
        self.check(3, 3, [0, 1, 1, 2], [0, 1, 0, 2, 1, 2], [1, 0])
        self.check(3, 3, ROUND_OF_THREE, [0, 1, 1, 2, 2, 0, 2, 1], [1, 0])


class WhatHolds(unittest.TestCase):
    def test_same_as_the_meaning_told(self):
        for n, m, first, second in oracle.pairs_to_try():
            with self.subTest(n=n, m=m, first=first, second=second):
                self.assertEqual(below(n, m, first, second), oracle.below_of(n, m, first, second))

    def test_core_and_graph_are_below_one_another(self):
        for n, first in oracle.graphs_to_try():
            with self.subTest(n=n, first=first):
                answer = core(n, first)
                self.assertEqual(below(n, answer[0], first, answer[answer[0] + 1:]), [1, 1])

    def test_below_one_another_just_if_the_cores_are_the_same_but_for_names(self):
        cores = [(n, first, *oracle.core_of(n, oracle.arrows_of(first))) for n, first in oracle.few_graphs()]
        for n, first, places, arrows in cores:
            for m, second, others, other_arrows in cores:
                with self.subTest(n=n, m=m, first=first, second=second):
                    same = oracle.same_but_for_names(len(places), arrows, len(others), other_arrows)
                    self.assertEqual(below(n, m, first, second) == [1, 1], same)

    def test_each_is_below_itself(self):
        for n, first in oracle.graphs_to_try():
            with self.subTest(n=n, first=first):
                self.assertEqual(below(n, n, first, list(first)), [1, 1])

    def test_one_list_handed_in_as_both(self):
        for first in ([], [0, 1, 1, 2], TURNING):
            self.assertEqual(below(4, 4, first, first), [1, 1])

    def test_below_what_is_below_is_below(self):
        few = list(oracle.few_graphs())
        above = [[k for k, (m, second) in enumerate(few) if below(n, m, first, second)[0] == 1]
                 for n, first in few]
        for k, found in enumerate(above):
            for between in found:
                self.assertLessEqual(set(above[between]), set(found), (few[k], few[between]))


class WrongInputs(unittest.TestCase):
    GRAPHS = [(1, []), (3, ROUND_OF_THREE), (5, oracle.numbers_of((u, v) for u in range(5) for v in range(5)))]

    def test_the_first_is_no_graph(self):
        for why, n, first in oracle.no_graphs():
            for m, second in self.GRAPHS:
                with self.subTest(why, m=m):
                    self.assertEqual(below(n, m, first, second), oracle.REFUSED)

    def test_the_second_is_no_graph(self):
        for why, m, second in oracle.no_graphs():
            for n, first in self.GRAPHS:
                with self.subTest(why, n=n):
                    self.assertEqual(below(n, m, first, second), oracle.REFUSED)

    def test_neither_is_a_graph(self):
        for why, n, first in oracle.no_graphs():
            for other_why, m, second in oracle.no_graphs():
                with self.subTest(why, second=other_why):
                    self.assertEqual(below(n, m, first, second), oracle.REFUSED)

    def test_n_goes_with_first_and_m_with_second(self):
        self.assertEqual(below(2, 3, [0, 2], [0, 1]), oracle.REFUSED)
        self.assertEqual(below(3, 2, [0, 1], [0, 2]), oracle.REFUSED)
        self.assertEqual(below(3, 2, [0, 2], [0, 1]), [1, 1])
        self.assertEqual(below(2, 3, [0, 1], [0, 2]), [1, 1])


class Handed(unittest.TestCase):
    def test_stays_as_it_was(self):
        lists = [(4, TURNING), (3, []), (3, [1, 0, 0, 1]), (3, [0, 1, 2]), (2, [0, 1])]
        for n, first in lists:
            for m, second in lists:
                handed, other = oracle.Untouchable(first), oracle.Untouchable(second)
                below(n, m, handed, other)
                self.assertEqual(handed, first)
                self.assertEqual(other, second)

    def test_each_call_by_itself(self):
        handed, other = [0, 1], [0, 1, 1, 2]
        answer = below(2, 3, handed, other)
        answer.clear()
        handed.clear()
        other.clear()
        self.assertEqual(below(3, 3, [0, 1, 0], []), oracle.REFUSED)
        self.assertEqual(below(2, 3, [], []), [1, 1])
        self.assertEqual(below(2, 3, [0, 1], [0, 1, 1, 2]), [1, 0])

    def test_named_arguments(self):
        self.assertEqual(below(second=[0, 1, 1, 2], first=[0, 1], m=3, n=2), [1, 0])


if __name__ == "__main__":
    unittest.main()
