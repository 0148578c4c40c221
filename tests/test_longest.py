import unittest

from tests.helper import (
    BIGGEST, NOT_GRAPHS, NOT_GRAPHS_THAT_COME_ROUND, CallsByThemselves, every_graph, flat, longest_walk, many_graphs)
from towerorwalk.graphs import longest


class OrdinaryGraphs(unittest.TestCase):
    def test_how_many_arrows_the_longest_walk_has(self):
        self.assertEqual(longest(2, [0, 1]), [1])
        self.assertEqual(longest(3, [0, 1, 1, 2]), [2])
        self.assertEqual(longest(3, [0, 1, 0, 2]), [1])
        self.assertEqual(longest(4, [0, 1, 2, 3]), [1])
        self.assertEqual(longest(5, [0, 2, 1, 2, 2, 3, 2, 4]), [2])

    def test_places_need_not_be_numbered_along_the_arrows(self):
        self.assertEqual(longest(3, [1, 0, 2, 1]), [2])
        self.assertEqual(longest(5, [0, 3, 1, 0, 3, 4, 4, 2]), [4])
        self.assertEqual(longest(5, [1, 0, 2, 1, 3, 2, 4, 3]), [4])

    def test_the_longest_walk_need_not_begin_first_or_end_last(self):
        self.assertEqual(longest(5, [0, 4, 1, 3, 3, 2]), [2])
        self.assertEqual(longest(5, [0, 1, 2, 3, 3, 1]), [2])

    def test_a_short_and_a_long_way_to_a_place(self):
        self.assertEqual(longest(4, [0, 1, 0, 3, 1, 2, 2, 3]), [3])

    def test_it_comes_round(self):
        self.assertEqual(longest(3, [0, 1, 1, 2, 2, 0]), [-33])
        self.assertEqual(longest(4, [0, 1, 1, 2, 2, 3, 3, 0]), [-33])

    def test_arguments_by_name(self):
        self.assertEqual(longest(n=2, first=[0, 1]), [1])


class NamedEdges(unittest.TestCase):
    def test_no_arrows(self):
        for n in range(1, 6):
            self.assertEqual(longest(n, []), [0])

    def test_an_arrow_from_a_place_to_itself(self):
        self.assertEqual(longest(1, [0, 0]), [-33])
        for n in range(1, 6):
            for place in range(n):
                self.assertEqual(longest(n, [place, place]), [-33])

    def test_an_arrow_from_a_place_to_itself_among_others(self):
        self.assertEqual(longest(3, [0, 1, 1, 2, 2, 2]), [-33])
        self.assertEqual(longest(3, [0, 0, 0, 1, 1, 2]), [-33])

    def test_arrows_both_ways(self):
        self.assertEqual(longest(2, [0, 1, 1, 0]), [-33])
        self.assertEqual(longest(5, [3, 4, 4, 3]), [-33])
        self.assertEqual(longest(5, [0, 1, 1, 2, 2, 1]), [-33])

    def test_a_round_of_an_even_number(self):
        self.assertEqual(longest(5, [1, 2, 2, 3, 3, 4, 4, 1]), [-33])

    def test_a_round_of_all_five_places(self):
        self.assertEqual(longest(5, [0, 1, 1, 2, 2, 3, 3, 4, 4, 0]), [-33])
        self.assertEqual(longest(5, [0, 2, 1, 0, 2, 4, 3, 1, 4, 3]), [-33])

    def test_a_round_with_only_some_of_the_places_on_it(self):
        self.assertEqual(longest(5, [0, 1, 1, 2, 2, 3, 3, 4, 4, 3]), [-33])
        self.assertEqual(longest(5, [0, 1, 1, 0, 1, 2, 2, 3, 3, 4]), [-33])
        self.assertEqual(longest(5, [0, 1, 2, 3, 3, 4, 4, 2]), [-33])

    def test_two_ways_that_meet_again_are_no_round(self):
        self.assertEqual(longest(4, [0, 1, 0, 2, 1, 3, 2, 3]), [2])

    def test_five_places(self):
        self.assertEqual(longest(5, [0, 1, 1, 2, 2, 3, 3, 4]), [4])
        self.assertEqual(longest(5, flat((u, v) for u in range(5) for v in range(u + 1, 5))), [4])
        self.assertEqual(longest(5, flat((u, v) for u in range(5) for v in range(5))), [-33])


class WrongInputs(unittest.TestCase):
    def test_not_a_graph(self):
        for name, (n, first) in NOT_GRAPHS.items():
            with self.subTest(name):
                self.assertEqual(longest(n, list(first)), [-22])

    def test_not_a_graph_is_told_before_that_it_comes_round(self):
        for n, first in NOT_GRAPHS_THAT_COME_ROUND:
            with self.subTest(n=n, first=first):
                self.assertEqual(longest(n, first), [-22])


class HeldAgainstTheWords(unittest.TestCase):
    def check(self, n, arrows):
        arrows_told = longest_walk(n, arrows)
        self.assertEqual(longest(n, flat(arrows)), [-33 if arrows_told is None else arrows_told], (n, arrows))

    def test_many_graphs(self):
        for n, arrows in many_graphs():
            self.check(n, arrows)

    def test_every_graph_of_four_places(self):
        for arrows in every_graph(4):
            self.check(4, arrows)


class NothingChangedNothingKept(CallsByThemselves, unittest.TestCase):
    call = staticmethod(longest)
    CALLS = (
        (3, [0, 1, 1, 2]), (3, [0, 1, 1, 0]), (1, [0, 0]), (5, []), (2, [0, 1, 0, 1]), (3, [0, 1, 1]), (6, [0, 1]),
        (3, [1, 2, 0, 1]), (5, [BIGGEST] * 60))


if __name__ == "__main__":
    unittest.main()
