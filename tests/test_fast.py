"""fast: how many maps into itself there are; then how many hold fast what they hit, how many give no place twice."""

import unittest

import oracle
from graphcore.folds import core, fast, iscore


class OrdinaryGraphs(unittest.TestCase):
    def test_one_place(self):
        self.assertEqual(fast(1, []), [1, 1, 1])
        self.assertEqual(fast(1, [0, 0]), [1, 1, 1])

    def test_path_of_arrows_goes_into_itself_in_one_way(self):
        self.assertEqual(fast(2, [0, 1]), [1, 1, 1])
        self.assertEqual(fast(5, [0, 1, 1, 2, 2, 3, 3, 4]), [1, 1, 1])

    def test_arrows_from_one_place(self):
        # 1 and 2 get 1 or 2 each; held fast are 1 and 2, 1 alone, 2 alone.
        self.assertEqual(fast(3, [0, 1, 0, 2]), [4, 3, 2])

    def test_all_give_no_place_twice(self):
        self.assertEqual(fast(3, [0, 1, 1, 2, 2, 0]), [3, 1, 3])
        self.assertEqual(fast(5, [0, 1, 1, 2, 2, 3, 3, 4, 4, 0]), [5, 1, 5])

    def test_few_give_no_place_twice(self):
        self.assertEqual(fast(4, [0, 1, 0, 2, 0, 3]), [27, 10, 6])
        # 0 gets itself, the rest what it likes; with 1 to 5 places held fast, 0 among them: 1 + 32 + 54 + 16 + 1.
        self.assertEqual(fast(5, [0, 0]), [625, 104, 24])

    def test_answer_is_a_list_of_whole_numbers(self):
        for n, first, count in [(3, [0, 1, 0, 2], 3), (3, [0], 1)]:
            answer = fast(n, first)
            self.assertIs(type(answer), list)
            self.assertEqual([type(number) for number in answer], [int] * count)


class NamedEdges(unittest.TestCase):
    def test_arrow_from_a_place_to_itself(self):
        self.assertEqual(fast(2, [0, 0]), [2, 2, 1])
        self.assertEqual(fast(2, [0, 1, 1, 1]), [2, 2, 1])
        self.assertEqual(fast(2, [0, 0, 1, 1]), [4, 3, 2])

    def test_every_arrow_there_is(self):
        full = oracle.numbers_of((u, v) for u in range(5) for v in range(5))
        self.assertEqual(fast(5, full), [3125, 196, 120])

    def test_no_arrows(self):
        self.assertEqual([fast(n, []) for n in range(1, 6)],
                         [[1, 1, 1], [4, 3, 2], [27, 10, 6], [256, 41, 24], [3125, 196, 120]])

    def test_two_parts(self):
        # Changing the two parts for one another holds nothing fast.
        self.assertEqual(fast(4, [0, 1, 2, 3]), [4, 3, 2])

    def test_two_parts_that_stay_apart(self):
        self.assertEqual(fast(5, [0, 1, 1, 0, 2, 3, 3, 4, 4, 2]), [6, 1, 6])

    def test_arrows_both_ways(self):
        self.assertEqual(fast(2, [0, 1, 1, 0]), [2, 1, 2])
        self.assertEqual(fast(3, oracle.both_ways((0, 1), (1, 2))), [6, 3, 2])
        self.assertEqual(fast(5, oracle.both_ways((0, 1), (1, 2), (2, 3), (3, 4), (4, 0))), [10, 1, 10])

    def test_all_arrows_but_to_themselves(self):
        whole = [oracle.numbers_of((u, v) for u in range(n) for v in range(n) if u != v) for n in range(6)]
        self.assertEqual([fast(n, whole[n]) for n in range(1, 6)],
                         [[1, 1, 1], [2, 1, 2], [6, 1, 6], [24, 1, 24], [120, 1, 120]])

    def test_fold_that_turns_what_it_hits(self):
        # Of the four maps two turn 1, 2, 3; the fold is one of them, and holds nothing fast.
        self.assertEqual(fast(4, [1, 0, 1, 2, 2, 3, 3, 1]), [4, 2, 1])


class WhatHolds(unittest.TestCase):
    def test_same_as_the_meaning_told(self):
        for n, first in oracle.graphs_to_try():
            with self.subTest(n=n, first=first):
                self.assertEqual(fast(n, first), oracle.fast_of(n, first))

    def test_a_core_goes_into_itself_by_changed_names_alone(self):
        for n, first in oracle.graphs_to_try():
            with self.subTest(n=n, first=first):
                answer = core(n, first)
                every, holding, parting = fast(answer[0], answer[answer[0] + 1:])
                self.assertEqual(parting, every)
                self.assertEqual(holding, 1)

    def test_some_map_holds_the_core_fast(self):
        # Each place getting itself holds all fast; where the core is less than that, another one holds the core.
        for n, first in oracle.graphs_to_try():
            with self.subTest(n=n, first=first):
                every, holding, parting = fast(n, first)
                self.assertEqual(holding == 1, iscore(n, first) == [1])
                self.assertEqual(parting == every, iscore(n, first) == [1])


class WrongInputs(unittest.TestCase):
    def test_no_graph(self):
        for why, n, first in oracle.no_graphs():
            with self.subTest(why):
                self.assertEqual(fast(n, first), oracle.REFUSED)


class Handed(unittest.TestCase):
    def test_stays_as_it_was(self):
        for n, first in [(4, [1, 0, 1, 2, 2, 3, 3, 1]), (3, []), (3, [1, 0, 0, 1]), (3, [0, 1, 2])]:
            handed = oracle.Untouchable(first)
            fast(n, handed)
            self.assertEqual(handed, first)

    def test_each_call_by_itself(self):
        handed = [0, 1, 0, 2]
        answer = fast(3, handed)
        answer.clear()
        handed.clear()
        self.assertEqual(fast(3, [0, 1, 0]), oracle.REFUSED)
        self.assertEqual(fast(3, []), [27, 10, 6])
        self.assertEqual(fast(3, [0, 1, 0, 2]), [4, 3, 2])

    def test_named_arguments(self):
        self.assertEqual(fast(first=[0, 1, 0, 2], n=3), [4, 3, 2])


if __name__ == "__main__":
    unittest.main()
