import unittest

from tests.helper import (
    BIGGEST, NOT_GRAPHS, NOT_GRAPHS_THAT_COME_ROUND, CallsByThemselves, every_graph, flat, graphs_that_rise,
    is_map, longest_that_ends, many_graphs)
from towerorwalk.graphs import lift, longest, tower


class OrdinaryGraphs(unittest.TestCase):
    def test_of_each_place_the_longest_walk_that_ends_there(self):
        self.assertEqual(lift(2, [0, 1]), [2, 0, 1])
        self.assertEqual(lift(3, [0, 1, 1, 2]), [3, 0, 1, 2])
        self.assertEqual(lift(3, [0, 1, 0, 2]), [3, 0, 1, 1])
        self.assertEqual(lift(4, [0, 1, 2, 3]), [4, 0, 1, 0, 1])
        self.assertEqual(lift(5, [0, 2, 1, 2, 2, 3, 2, 4, 4, 3]), [5, 0, 0, 1, 3, 2])

    def test_arrows_from_greater_places_to_lesser_ones(self):
        self.assertEqual(lift(2, [1, 0]), [2, 1, 0])
        self.assertEqual(lift(3, [1, 0, 2, 1]), [3, 2, 1, 0])
        self.assertEqual(lift(4, [3, 0, 3, 1, 3, 2]), [4, 1, 1, 1, 0])
        self.assertEqual(lift(5, [1, 0, 2, 1, 3, 2, 4, 3]), [5, 4, 3, 2, 1, 0])
        self.assertEqual(lift(5, flat((u, v) for u in range(5) for v in range(u))), [5, 4, 3, 2, 1, 0])

    def test_arrows_up_and_down(self):
        self.assertEqual(lift(5, [0, 3, 1, 0, 3, 4, 4, 2]), [5, 1, 0, 4, 2, 3])
        self.assertEqual(lift(5, [0, 4, 1, 3, 3, 2]), [5, 0, 0, 2, 1, 1])

    def test_walks_that_end_at_a_place_not_those_that_begin_there(self):
        self.assertEqual(lift(4, [0, 1, 1, 2]), [4, 0, 1, 2, 0])
        self.assertEqual(lift(4, [0, 3, 1, 3, 2, 3]), [4, 0, 0, 0, 1])

    def test_a_short_and_a_long_way_to_a_place(self):
        self.assertEqual(lift(4, [0, 1, 0, 3, 1, 2, 2, 3]), [4, 0, 1, 2, 3])
        self.assertEqual(lift(4, [1, 0, 2, 1, 3, 0, 3, 2]), [4, 3, 2, 1, 0])

    def test_it_comes_round(self):
        self.assertEqual(lift(3, [0, 1, 1, 2, 2, 0]), [-33])
        self.assertEqual(lift(4, [0, 1, 1, 2, 2, 3, 3, 0]), [-33])

    def test_arguments_by_name(self):
        self.assertEqual(lift(n=2, first=[0, 1]), [2, 0, 1])


class NamedEdges(unittest.TestCase):
    def test_no_arrows(self):
        for n in range(1, 6):
            self.assertEqual(lift(n, []), [n] + [0] * n)

    def test_an_arrow_from_a_place_to_itself(self):
        for n in range(1, 6):
            for place in range(n):
                self.assertEqual(lift(n, [place, place]), [-33])

    def test_an_arrow_from_a_place_to_itself_among_others(self):
        self.assertEqual(lift(3, [0, 1, 1, 2, 2, 2]), [-33])
        self.assertEqual(lift(3, [0, 0, 0, 1, 1, 2]), [-33])

    def test_arrows_both_ways(self):
        self.assertEqual(lift(2, [0, 1, 1, 0]), [-33])
        self.assertEqual(lift(5, [3, 4, 4, 3]), [-33])
        self.assertEqual(lift(5, [0, 1, 1, 2, 2, 1]), [-33])

    def test_a_round_of_an_even_number(self):
        self.assertEqual(lift(5, [1, 2, 2, 3, 3, 4, 4, 1]), [-33])

    def test_a_walk_that_comes_twice_to_a_place(self):
        self.assertEqual(lift(5, [0, 1, 1, 2, 2, 3, 3, 4, 4, 0]), [-33])
        self.assertEqual(lift(5, [0, 2, 1, 0, 2, 4, 3, 1, 4, 3]), [-33])
        self.assertEqual(lift(5, [0, 1, 1, 2, 2, 3, 3, 4, 4, 3]), [-33])
        self.assertEqual(lift(5, [0, 1, 1, 0, 1, 2, 2, 3, 3, 4]), [-33])
        self.assertEqual(lift(5, [0, 1, 2, 3, 3, 4, 4, 2]), [-33])

    def test_two_ways_that_meet_again_are_no_round(self):
        self.assertEqual(lift(4, [0, 1, 0, 2, 1, 3, 2, 3]), [4, 0, 1, 1, 2])

    def test_one_place(self):
        self.assertEqual(lift(1, []), [1, 0])
        self.assertEqual(lift(1, [0, 0]), [-33])

    def test_five_places(self):
        self.assertEqual(lift(5, [0, 1, 1, 2, 2, 3, 3, 4]), [5, 0, 1, 2, 3, 4])
        self.assertEqual(lift(5, flat((u, v) for u in range(5) for v in range(u + 1, 5))), [5, 0, 1, 2, 3, 4])
        self.assertEqual(lift(5, flat((u, v) for u in range(5) for v in range(5))), [-33])


class WrongInputs(unittest.TestCase):
    def test_not_a_graph(self):
        for name, (n, first) in NOT_GRAPHS.items():
            with self.subTest(name):
                self.assertEqual(lift(n, list(first)), [-22])

    def test_not_a_graph_is_told_before_that_it_comes_round(self):
        for n, first in NOT_GRAPHS_THAT_COME_ROUND:
            with self.subTest(n=n, first=first):
                self.assertEqual(lift(n, first), [-22])


class HeldAgainstTheWords(unittest.TestCase):
    def test_many_graphs(self):
        for n, arrows in many_graphs():
            lengths = longest_that_ends(n, arrows)
            self.assertEqual(lift(n, flat(arrows)), [-33] if lengths is None else [n] + lengths, (n, arrows))

    def test_longest_comes_round_with_it_and_tells_its_greatest(self):
        for n in (1, 2, 3, 4):
            for arrows in every_graph(n):
                answer = lift(n, flat(arrows))
                told = answer[0] if answer[0] < 0 else max(answer[1:])
                self.assertEqual(longest(n, flat(arrows)), [told], (n, arrows))


class WhatHolds(unittest.TestCase):
    def check(self, n, arrows):
        heights = lift(n, flat(arrows))[1:]
        least = max(heights) + 1
        self.assertEqual(len(heights), n, arrows)
        self.assertTrue(is_map(heights, arrows, least), (n, arrows))
        self.assertEqual(tower(n, least, flat(arrows)), [1] + heights, (n, arrows))
        for k in range(1, least):
            self.assertEqual(tower(n, k, flat(arrows))[0], 0, (n, k, arrows))

    def test_by_the_lift_it_is_mapped_into_the_least_tower(self):
        for n in range(1, 6):
            for arrows in graphs_that_rise(n):
                self.check(n, arrows)

    def test_what_comes_round_is_mapped_into_no_tower(self):
        for n, arrows in many_graphs():
            comes_round = lift(n, flat(arrows)) == [-33]
            mapped = [k for k in range(1, 7) if tower(n, k, flat(arrows))[0] == 1]
            self.assertEqual(mapped == [], comes_round, (n, arrows))


class NothingChangedNothingKept(CallsByThemselves, unittest.TestCase):
    call = staticmethod(lift)
    CALLS = (
        (3, [0, 1, 1, 2]), (3, [1, 0, 2, 1]), (3, [0, 1, 1, 0]), (1, [0, 0]), (1, []), (5, []), (2, [0, 1, 0, 1]),
        (3, [0, 1, 1]), (6, [0, 1]), (3, [1, 2, 0, 1]), (5, [BIGGEST] * 60))


if __name__ == "__main__":
    unittest.main()
