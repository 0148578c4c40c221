import unittest

from tests.helper import (
    BIGGEST, NOT_GRAPHS, NOT_GRAPHS_THAT_COME_ROUND, CallsByThemselves, closed_walks_one_by_one, every_graph, flat,
    graphs_by_neighbours, is_closed_walk, is_colouring, many_graphs, ways_one_by_one)
from towerorwalk.graphs import colours


class TwoColoursAreEnough(unittest.TestCase):
    def test_the_first_way_to_give_them(self):
        self.assertEqual(colours(2, [0, 1]), [1, 0, 1])
        self.assertEqual(colours(3, [0, 1, 1, 2]), [1, 0, 1, 0])
        self.assertEqual(colours(3, [0, 2, 1, 2]), [1, 0, 0, 1])
        self.assertEqual(colours(4, [0, 1, 0, 2, 0, 3]), [1, 0, 1, 1, 1])
        self.assertEqual(colours(5, [0, 2, 1, 2, 2, 3, 2, 4]), [1, 0, 0, 1, 0, 0])
        self.assertEqual(colours(5, [0, 2, 0, 3, 0, 4, 1, 2, 1, 3, 1, 4]), [1, 0, 0, 1, 1, 1])

    def test_arrows_lead_either_way(self):
        self.assertEqual(colours(2, [1, 0]), [1, 0, 1])
        self.assertEqual(colours(3, [1, 0, 2, 1]), [1, 0, 1, 0])
        self.assertEqual(colours(3, [0, 2, 2, 1]), [1, 0, 0, 1])
        self.assertEqual(colours(5, [1, 0, 1, 2, 3, 2, 3, 4]), [1, 0, 1, 0, 1, 0])
        self.assertEqual(colours(5, [2, 0, 2, 1, 3, 2, 4, 2]), [1, 0, 0, 1, 0, 0])

    def test_a_colour_that_only_a_later_place_asks_for(self):
        self.assertEqual(colours(4, [0, 3, 1, 2, 2, 3]), [1, 0, 1, 0, 1])
        self.assertEqual(colours(4, [0, 3, 1, 2, 1, 3]), [1, 0, 0, 1, 1])
        self.assertEqual(colours(5, [0, 2, 1, 4, 3, 1, 4, 2]), [1, 0, 1, 1, 0, 0])

    def test_several_parts(self):
        self.assertEqual(colours(4, [0, 1, 2, 3]), [1, 0, 1, 0, 1])
        self.assertEqual(colours(4, [1, 0, 3, 2]), [1, 0, 1, 0, 1])
        self.assertEqual(colours(5, [0, 4, 1, 3]), [1, 0, 0, 0, 1, 1])
        self.assertEqual(colours(5, [3, 0, 4, 1]), [1, 0, 0, 0, 1, 1])
        self.assertEqual(colours(5, [1, 2, 3, 4]), [1, 0, 0, 1, 0, 1])
        self.assertEqual(colours(5, [0, 1, 2, 3, 4, 3]), [1, 0, 1, 0, 1, 0])
        self.assertEqual(colours(5, [3, 1]), [1, 0, 0, 0, 1, 0])

    def test_arguments_by_name(self):
        self.assertEqual(colours(n=2, first=[0, 1]), [1, 0, 1])


class TwoColoursAreNotEnough(unittest.TestCase):
    def test_a_closed_walk_of_one_step(self):
        self.assertEqual(colours(1, [0, 0]), [0, 2, 0, 0])
        self.assertEqual(colours(4, [0, 1, 1, 2, 2, 2]), [0, 2, 2, 2])

    def test_a_closed_walk_of_three_steps(self):
        self.assertEqual(colours(3, [0, 1, 1, 2, 2, 0]), [0, 4, 0, 1, 2, 0])
        self.assertEqual(colours(4, [1, 2, 2, 3, 3, 1]), [0, 4, 1, 2, 3, 1])
        self.assertEqual(colours(5, [2, 3, 3, 4, 4, 2]), [0, 4, 2, 3, 4, 2])

    def test_a_closed_walk_of_five_steps(self):
        self.assertEqual(colours(5, [0, 1, 1, 2, 2, 3, 3, 4, 4, 0]), [0, 6, 0, 1, 2, 3, 4, 0])
        self.assertEqual(colours(5, [0, 2, 1, 3, 2, 4, 3, 0, 4, 1]), [0, 6, 0, 2, 4, 1, 3, 0])

    def test_arrows_lead_either_way(self):
        self.assertEqual(colours(3, [0, 1, 0, 2, 1, 2]), [0, 4, 0, 1, 2, 0])
        self.assertEqual(colours(3, [1, 0, 2, 0, 2, 1]), [0, 4, 0, 1, 2, 0])
        self.assertEqual(colours(3, [0, 2, 1, 0, 2, 1]), [0, 4, 0, 1, 2, 0])
        self.assertEqual(colours(5, [0, 1, 0, 4, 2, 1, 2, 3, 4, 3]), [0, 6, 0, 1, 2, 3, 4, 0])

    def test_several_parts(self):
        self.assertEqual(colours(5, [0, 1, 2, 3, 2, 4, 3, 4]), [0, 4, 2, 3, 4, 2])
        self.assertEqual(colours(5, [0, 1, 0, 2, 1, 2, 4, 3]), [0, 4, 0, 1, 2, 0])
        self.assertEqual(colours(5, [0, 1, 0, 2, 1, 2, 4, 4]), [0, 2, 4, 4])

    def test_the_shortest_though_a_longer_one_comes_ahead(self):
        self.assertEqual(colours(3, [0, 1, 0, 2, 1, 2, 2, 2]), [0, 2, 2, 2])
        self.assertEqual(colours(5, [0, 1, 1, 2, 1, 3, 2, 3, 3, 4, 4, 0]), [0, 4, 1, 2, 3, 1])
        self.assertEqual(colours(5, [0, 1, 1, 2, 2, 3, 3, 4, 4, 0, 4, 4]), [0, 2, 4, 4])

    def test_of_several_of_the_same_length_the_first(self):
        self.assertEqual(colours(4, [1, 1, 3, 3]), [0, 2, 1, 1])
        self.assertEqual(colours(5, [0, 1, 0, 2, 1, 2, 2, 3, 2, 4, 3, 4]), [0, 4, 0, 1, 2, 0])
        self.assertEqual(colours(5, [0, 3, 0, 4, 1, 0, 2, 0, 2, 1, 4, 3]), [0, 4, 0, 1, 2, 0])
        self.assertEqual(colours(5, [1, 2, 1, 3, 2, 3, 2, 4, 3, 4]), [0, 4, 1, 2, 3, 1])
        self.assertEqual(colours(4, [0, 2, 0, 3, 1, 2, 1, 3, 2, 3]), [0, 4, 0, 2, 3, 0])

    def test_a_lesser_place_from_which_it_does_not_close_is_passed_by(self):
        self.assertEqual(colours(4, [0, 1, 0, 2, 0, 3, 2, 3]), [0, 4, 0, 2, 3, 0])
        self.assertEqual(colours(4, [0, 1, 1, 2, 1, 3, 2, 3]), [0, 4, 1, 2, 3, 1])
        self.assertEqual(colours(5, [0, 1, 0, 3, 0, 4, 1, 2, 3, 4]), [0, 4, 0, 3, 4, 0])
        self.assertEqual(colours(5, [0, 2, 0, 4, 1, 2, 2, 4]), [0, 4, 0, 2, 4, 0])


class NamedEdges(unittest.TestCase):
    def test_no_arrows(self):
        for n in range(1, 6):
            self.assertEqual(colours(n, []), [1] + [0] * n)

    def test_an_arrow_from_a_place_to_itself(self):
        for n in range(1, 6):
            for place in range(n):
                self.assertEqual(colours(n, [place, place]), [0, 2, place, place])

    def test_arrows_both_ways(self):
        self.assertEqual(colours(2, [0, 1, 1, 0]), [1, 0, 1])
        self.assertEqual(colours(5, [3, 4, 4, 3]), [1, 0, 0, 0, 0, 1])
        self.assertEqual(colours(3, [0, 1, 1, 0, 1, 2, 2, 1]), [1, 0, 1, 0])
        self.assertEqual(colours(3, [0, 1, 0, 2, 1, 0, 1, 2, 2, 0, 2, 1]), [0, 4, 0, 1, 2, 0])
        self.assertEqual(colours(2, [0, 1, 1, 0, 1, 1]), [0, 2, 1, 1])

    def test_colours_are_counted_from_0(self):
        for n in range(2, 6):
            for place in range(1, n):
                self.assertEqual(colours(n, [0, place]), [1] + [int(other == place) for other in range(n)])

    def test_a_round_of_an_even_number(self):
        self.assertEqual(colours(4, [0, 1, 1, 2, 2, 3, 3, 0]), [1, 0, 1, 0, 1])
        self.assertEqual(colours(4, [0, 2, 1, 3, 2, 1, 3, 0]), [1, 0, 0, 1, 1])
        self.assertEqual(colours(5, [1, 2, 2, 3, 3, 4, 4, 1]), [1, 0, 0, 1, 0, 1])

    def test_a_round_of_an_even_number_with_an_odd_one_beside_it(self):
        self.assertEqual(colours(4, [0, 1, 1, 2, 1, 3, 2, 3, 3, 0]), [0, 4, 0, 1, 3, 0])
        self.assertEqual(colours(5, [0, 1, 1, 2, 2, 3, 3, 0, 3, 4, 4, 2]), [0, 4, 2, 3, 4, 2])

    def test_one_place(self):
        self.assertEqual(colours(1, []), [1, 0])
        self.assertEqual(colours(1, [0, 0]), [0, 2, 0, 0])

    def test_five_places(self):
        self.assertEqual(colours(5, [0, 1, 1, 2, 2, 3, 3, 4]), [1, 0, 1, 0, 1, 0])
        self.assertEqual(colours(5, flat((u, v) for u in range(5) for v in range(u + 1, 5))), [0, 4, 0, 1, 2, 0])
        self.assertEqual(colours(5, flat((u, v) for u in range(5) for v in range(5) if u != v)), [0, 4, 0, 1, 2, 0])
        self.assertEqual(colours(5, flat((u, v) for u in range(5) for v in range(5))), [0, 2, 0, 0])


class WrongInputs(unittest.TestCase):
    def test_not_a_graph(self):
        for name, (n, first) in NOT_GRAPHS.items():
            with self.subTest(name):
                self.assertEqual(colours(n, list(first)), [-22])

    def test_not_a_graph_though_there_would_be_a_closed_walk(self):
        for n, first in NOT_GRAPHS_THAT_COME_ROUND:
            with self.subTest(n=n, first=first):
                self.assertEqual(colours(n, list(first)), [-22])


class WhatHolds(unittest.TestCase):
    def check_colours(self, n, arrows, given):
        self.assertEqual(len(given), n, arrows)
        self.assertTrue(set(given) <= {0, 1} and is_colouring(given, arrows), (n, arrows))
        self.assertEqual(given, next(ways_one_by_one(n, 2, arrows)), (n, arrows))
        for steps in (1, 3, 5):
            self.assertIsNone(next(closed_walks_one_by_one(n, steps, arrows), None), (n, arrows))

    def check_closed_walk(self, n, arrows, count, places):
        self.assertEqual((len(places), count % 2), (count, 0), (n, arrows))
        self.assertTrue(is_closed_walk(places, arrows), (n, arrows))
        for shorter in range(1, count - 1, 2):
            self.assertIsNone(next(closed_walks_one_by_one(n, shorter, arrows), None), (n, arrows))
        self.assertEqual(places, next(closed_walks_one_by_one(n, count - 1, arrows)), (n, arrows))
        self.assertIsNone(next(ways_one_by_one(n, 2, arrows), None), (n, arrows))

    def check(self, n, arrows):
        answer = colours(n, flat(arrows))
        self.assertIn(answer[0], (0, 1), (n, arrows))
        if answer[0] == 1:
            self.check_colours(n, arrows, answer[1:])
        else:
            self.check_closed_walk(n, arrows, answer[1], answer[2:])

    def test_many_graphs(self):
        for n, arrows in many_graphs():
            self.check(n, arrows)

    def test_every_graph_of_four_places(self):
        for arrows in every_graph(4):
            self.check(4, arrows)

    def test_every_choice_of_neighbours_among_five_places(self):
        for arrows in graphs_by_neighbours(5):
            self.check(5, arrows)


class NothingChangedNothingKept(CallsByThemselves, unittest.TestCase):
    call = staticmethod(colours)
    CALLS = (
        (3, [0, 1, 1, 2]), (3, [0, 1, 1, 2, 2, 0]), (3, [0, 1, 1, 0]), (1, [0, 0]), (1, []), (5, []),
        (5, [0, 1, 1, 2, 2, 3, 3, 4, 4, 0]), (5, [1, 2, 2, 3, 3, 4, 4, 1]), (2, [0, 1, 0, 1]), (3, [0, 1, 1]),
        (6, [0, 1]), (3, [1, 2, 0, 1]), (5, [BIGGEST] * 60))


if __name__ == "__main__":
    unittest.main()
