"""alike: -33 the cores aren't the same but for names; else how many places, then the first map by which they are."""

import itertools
import unittest

import oracle
from graphcore.folds import alike, below, core

ROUND_OF_TWO = [0, 1, 1, 0]
ROUND_OF_THREE = [0, 1, 1, 2, 2, 0]
ROUND_OF_FOUR = [0, 1, 1, 2, 2, 3, 3, 0]
TURNING = [1, 0, 1, 2, 2, 3, 3, 1]
FIVE = oracle.both_ways((0, 1), (1, 2), (2, 3), (3, 4), (4, 0))
STAR = oracle.both_ways((0, 2), (2, 4), (4, 1), (1, 3), (3, 0))


class BothWaysRound(unittest.TestCase):
    def check(self, n, m, first, second, answer, turned):
        """Asks both ways round, so that neither n and m nor first and second may be mistaken for one another."""
        self.assertEqual(alike(n, m, first, second), answer)
        self.assertEqual(alike(m, n, second, first), turned)

    def check_unlike(self, n, m, first, second):
        self.check(n, m, first, second, oracle.UNLIKE, oracle.UNLIKE)


class OrdinaryGraphs(BothWaysRound):
    def test_one_place(self):
        self.check(1, 1, [], [], [1, 0], [1, 0])
        self.check(1, 1, [0, 0], [0, 0], [1, 0], [1, 0])
        self.check_unlike(1, 1, [], [0, 0])

    def test_other_names(self):
        self.check(3, 3, [0, 1, 1, 2], [1, 0, 2, 1], [3, 2, 1, 0], [3, 2, 1, 0])
        self.check(3, 3, [0, 1, 1, 2], [0, 1, 2, 0], [3, 2, 0, 1], [3, 1, 2, 0])
        self.check(4, 4, [0, 1, 1, 2, 2, 3], [0, 2, 1, 3, 2, 1], [4, 0, 2, 1, 3], [4, 0, 2, 1, 3])

    def test_both_cores_are_numbered_anew(self):
        self.check(5, 2, [4, 1], [0, 1], [2, 1, 0], [2, 1, 0])
        self.check(5, 5, [2, 4], [3, 1], [2, 1, 0], [2, 1, 0])
        self.check(3, 4, [0, 2, 1, 2], [3, 0, 3, 1, 3, 2], [2, 1, 0], [2, 1, 0])

    def test_unlike_numbers_of_places(self):
        self.check(4, 2, [0, 1, 0, 2, 0, 3], [0, 1], [2, 0, 1], [2, 0, 1])
        self.check(5, 3, [0, 1, 1, 2, 2, 0, 2, 3, 3, 4], ROUND_OF_THREE, [3, 0, 1, 2], [3, 0, 1, 2])
        self.check(5, 3, [0, 1, 1, 2, 2, 0, 2, 3, 3, 4], [0, 2, 1, 0, 2, 1], [3, 0, 2, 1], [3, 0, 2, 1])

    def test_unlike_numbers_of_places_not_the_same(self):
        self.check_unlike(2, 3, [0, 1], [0, 1, 1, 2])
        self.check_unlike(3, 4, ROUND_OF_THREE, ROUND_OF_FOUR)
        self.check_unlike(4, 5, ROUND_OF_FOUR, FIVE)

    def test_first_of_several_maps(self):
        self.check(3, 3, ROUND_OF_THREE, [0, 2, 1, 0, 2, 1], [3, 0, 2, 1], [3, 0, 2, 1])
        self.check(4, 4, ROUND_OF_FOUR, [0, 3, 1, 0, 2, 1, 3, 2], [4, 0, 3, 2, 1], [4, 0, 3, 2, 1])
        # Of the ten, two begin with 0.
        self.check(5, 5, FIVE, STAR, [5, 0, 2, 4, 1, 3], [5, 0, 2, 4, 1, 3])

    def test_first_of_several_maps_that_gives_0_another_place(self):
        hub = [0, 1, 0, 2, 0, 3, 1, 2, 2, 3, 3, 1]
        other = oracle.renamed(hub, [3, 0, 2, 1])
        self.check(4, 4, hub, other, [4, 3, 0, 2, 1], [4, 1, 3, 2, 0])

    def test_answer_is_a_list_of_whole_numbers(self):
        cases = [(5, 2, [4, 1], [0, 1], 3), (2, 3, [0, 1], ROUND_OF_THREE, 1), (2, 3, [0], [], 1)]
        for n, m, first, second, count in cases:
            answer = alike(n, m, first, second)
            self.assertIs(type(answer), list)
            self.assertEqual([type(number) for number in answer], [int] * count)


class NamedEdges(BothWaysRound):
    def test_arrow_from_a_place_to_itself_then_that_place_alone(self):
        self.check(5, 1, [0, 1, 1, 2, 4, 4], [0, 0], [1, 0], [1, 0])
        self.check(3, 4, [0, 1, 1, 1, 1, 2], [1, 1, 3, 3], [1, 0], [1, 0])
        self.check_unlike(5, 5, [0, 1, 1, 2, 4, 4], [0, 1, 1, 2])
        self.check_unlike(3, 2, ROUND_OF_THREE, [0, 1, 1, 1])

    def test_every_arrow_there_is(self):
        full = oracle.numbers_of((u, v) for u in range(5) for v in range(5))
        self.check(5, 5, full, full, [1, 0], [1, 0])
        self.check(5, 2, full, [1, 1], [1, 0], [1, 0])
        self.check_unlike(5, 5, full, [])

    def test_no_arrows(self):
        for n in range(1, 6):
            for m in range(1, 6):
                self.check(n, m, [], [], [1, 0], [1, 0])
        self.check_unlike(5, 2, [], [0, 1])

    def test_two_parts(self):
        self.check(5, 3, [0, 1, 2, 3, 3, 4, 4, 2], ROUND_OF_THREE, [3, 0, 1, 2], [3, 0, 1, 2])
        self.check(4, 2, [0, 1, 2, 3], [1, 0], [2, 1, 0], [2, 1, 0])

    def test_two_parts_that_stay_apart(self):
        apart = [0, 1, 1, 0, 2, 3, 3, 4, 4, 2]
        other = [0, 1, 1, 2, 2, 0, 3, 4, 4, 3]
        self.check(5, 5, apart, other, [5, 3, 4, 0, 1, 2], [5, 2, 3, 4, 0, 1])
        self.check_unlike(5, 2, apart, ROUND_OF_TWO)
        self.check_unlike(5, 3, apart, ROUND_OF_THREE)

    def test_arrows_both_ways(self):
        four = oracle.both_ways((0, 1), (1, 2), (2, 3), (3, 0))
        three = oracle.both_ways((0, 1), (1, 2), (2, 0))
        self.check(4, 2, four, ROUND_OF_TWO, [2, 0, 1], [2, 0, 1])
        self.check(4, 3, four, oracle.both_ways((0, 2), (1, 2)), [2, 0, 1], [2, 0, 1])
        self.check_unlike(5, 3, FIVE, three)
        self.check_unlike(3, 3, ROUND_OF_THREE, three)

    def test_all_arrows_but_to_themselves(self):
        whole = [oracle.numbers_of((u, v) for u in range(n) for v in range(n) if u != v) for n in range(6)]
        for n in range(1, 6):
            for m in range(1, 6):
                answer = [n, *range(n)] if n == m else oracle.UNLIKE
                self.check(n, m, whole[n], whole[m], answer, answer)

    def test_fold_that_turns_what_it_hits(self):
        self.check(4, 3, TURNING, ROUND_OF_THREE, [3, 0, 1, 2], [3, 0, 1, 2])
        self.check(4, 3, TURNING, [0, 2, 1, 0, 2, 1], [3, 0, 2, 1], [3, 0, 2, 1])
        self.check(4, 4, TURNING, TURNING, [3, 0, 1, 2], [3, 0, 1, 2])
        self.check_unlike(4, 4, TURNING, ROUND_OF_FOUR)

    def test_two_cores_of_as_many_places_that_are_not_the_same(self):
        self.check_unlike(3, 3, [0, 1, 1, 2], ROUND_OF_THREE)
        self.check_unlike(5, 5, [0, 1, 1, 2, 2, 3, 3, 4], FIVE)

    def test_as_many_places_and_arrows_but_not_the_same(self):
        self.check_unlike(3, 3, [0, 1, 0, 2, 1, 2], ROUND_OF_THREE)

    def test_each_place_given_but_not_each_arrow_hit(self):
        self.check_unlike(3, 3, [0, 1, 1, 2], [0, 1, 0, 2, 1, 2])
        self.check_unlike(3, 3, ROUND_OF_THREE, [0, 1, 1, 2, 2, 0, 2, 1])

    def test_no_place_given_twice_but_not_each_given(self):
        self.check_unlike(3, 4, [0, 1, 1, 2], [0, 1, 1, 2, 2, 3])

    def test_each_place_and_arrow_hit_but_some_twice(self):
        self.check_unlike(5, 3, [0, 1, 1, 2, 2, 3, 3, 4], ROUND_OF_THREE)


class WhatHolds(unittest.TestCase):
    @classmethod
    def setUpClass(cls):
        cls.answers = [(*pair, alike(*pair)) for pair in oracle.pairs_to_try()]

    def test_same_as_the_meaning_told(self):
        for n, m, first, second, answer in self.answers:
            with self.subTest(n=n, m=m, first=first, second=second):
                self.assertEqual(answer, oracle.alike_of(n, m, first, second))

    def test_below_one_another_just_if_alike(self):
        for n, m, first, second, answer in self.answers:
            with self.subTest(n=n, m=m, first=first, second=second):
                self.assertEqual(below(n, m, first, second) == [1, 1], answer != oracle.UNLIKE)

    def test_it_is_the_first_map_of_one_core_into_the_other(self):
        for n, m, first, second, answer in self.answers:
            if answer == oracle.UNLIKE:
                continue
            with self.subTest(n=n, m=m, first=first, second=second):
                places, arrows = oracle.split_core(core(n, first))
                others, other_arrows = oracle.split_core(core(m, second))
                self.assertEqual(answer[0], len(places))
                # Between two cores that are the same every map changes names alone: so the first of all is told.
                self.assertEqual(tuple(answer[1:]), oracle.maps(len(places), arrows, len(others), other_arrows)[0])
                self.assertEqual({(answer[u + 1], answer[v + 1]) for u, v in arrows}, other_arrows)

    def test_each_is_alike_to_itself_and_to_its_core(self):
        for n, first in oracle.graphs_to_try():
            with self.subTest(n=n, first=first):
                answer = core(n, first)
                count = answer[0]
                # Each place getting itself comes first of all that give no place twice.
                same = [count, *range(count)]
                self.assertEqual(alike(n, n, first, list(first)), same)
                self.assertEqual(alike(n, count, first, answer[count + 1:]), same)
                self.assertEqual(alike(count, n, answer[count + 1:], first), same)

    def test_alike_whatever_the_names(self):
        for n, first in oracle.few_graphs():
            for names in list(itertools.permutations(range(n)))[::7]:
                other = oracle.renamed(first, names)
                with self.subTest(n=n, first=first, other=other):
                    self.assertEqual(alike(n, n, first, other), oracle.alike_of(n, n, first, other))
                    self.assertNotEqual(alike(n, n, first, other), oracle.UNLIKE)


class WrongInputs(unittest.TestCase):
    # No two of them are alike: whatever a wrong input were taken for, -33 would be due with one of them.
    GRAPHS = [(1, []), (3, ROUND_OF_THREE), (5, oracle.numbers_of((u, v) for u in range(5) for v in range(5)))]

    def test_the_first_is_no_graph(self):
        for why, n, first in oracle.no_graphs():
            for m, second in self.GRAPHS:
                with self.subTest(why, m=m):
                    self.assertEqual(alike(n, m, first, second), oracle.REFUSED)

    def test_the_second_is_no_graph(self):
        for why, m, second in oracle.no_graphs():
            for n, first in self.GRAPHS:
                with self.subTest(why, n=n):
                    self.assertEqual(alike(n, m, first, second), oracle.REFUSED)

    def test_neither_is_a_graph(self):
        for why, n, first in oracle.no_graphs():
            for other_why, m, second in oracle.no_graphs():
                with self.subTest(why, second=other_why):
                    self.assertEqual(alike(n, m, first, second), oracle.REFUSED)

    def test_n_goes_with_first_and_m_with_second(self):
        self.assertEqual(alike(2, 3, [0, 2], [0, 1]), oracle.REFUSED)
        self.assertEqual(alike(3, 2, [0, 1], [0, 2]), oracle.REFUSED)
        self.assertEqual(alike(3, 2, [0, 2], [0, 1]), [2, 0, 1])
        self.assertEqual(alike(2, 3, [0, 1], [0, 2]), [2, 0, 1])


class Handed(unittest.TestCase):
    def test_stays_as_it_was(self):
        lists = [(4, TURNING), (3, ROUND_OF_THREE), (3, []), (3, [1, 0, 0, 1]), (3, [0, 1, 2]), (2, [0, 1])]
        for n, first in lists:
            for m, second in lists:
                handed, other = oracle.Untouchable(first), oracle.Untouchable(second)
                alike(n, m, handed, other)
                self.assertEqual(handed, first)
                self.assertEqual(other, second)

    def test_each_call_by_itself(self):
        handed, other = [0, 1, 1, 2], [1, 0, 2, 1]
        answer = alike(3, 3, handed, other)
        answer.clear()
        handed.clear()
        other.clear()
        self.assertEqual(alike(3, 3, [0, 1, 0], []), oracle.REFUSED)
        self.assertEqual(alike(3, 3, [0, 1, 1, 2], []), oracle.UNLIKE)
        self.assertEqual(alike(3, 3, [], []), [1, 0])
        self.assertEqual(alike(3, 3, [0, 1, 1, 2], [1, 0, 2, 1]), [3, 2, 1, 0])

    def test_one_list_handed_in_as_both(self):
        for first, count in (([], 1), ([0, 1, 1, 2], 3), (TURNING, 3)):
            self.assertEqual(alike(4, 4, first, first), [count, *range(count)])

    def test_named_arguments(self):
        self.assertEqual(alike(second=[0, 1], first=[4, 1], m=2, n=5), [2, 1, 0])


if __name__ == "__main__":
    unittest.main()
