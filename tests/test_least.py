import unittest

from tests.helper import (
    BIGGEST, NOT_GRAPHS, NOT_GRAPHS_THAT_COME_ROUND, CallsByThemselves, every_graph, flat, graphs_by_neighbours,
    is_colouring, many_graphs, ways_one_by_one)
from towerorwalk.graphs import colours, least

# What isn't a graph as told, though it tells an arrow from a place to itself.
NOT_GRAPHS_WITH_AN_ARROW_TO_ITSELF = (
    (0, [0, 0]), (6, [0, 0]), (6, [5, 5]), (BIGGEST, [0, 0]), (1, [0, 0, 0]), (2, [1, 1, 0]), (5, [4, 4] * 29 + [4]),
    (3, [3, 3]), (3, [0, 0, 0, 3]), (3, [0, 0, BIGGEST, BIGGEST]), (1, [0, 0, 0, 0]), (2, [0, 1, 0, 1, 1, 1]),
    (2, [1, 1, 0, 0]), (3, [2, 2, 1, 0]), (3, [0, 2, 0, 0]), (5, [0, 0] * 30), (6, [0, 0, 0, 0, 6]),
    (0, [BIGGEST, BIGGEST, 0, 0]))


def all_among(places):
    """An arrow between each two of these places, from the lesser to the greater."""
    return [(u, v) for u in places for v in places if u < v]


class OrdinaryGraphs(unittest.TestCase):
    def test_one_colour(self):
        self.assertEqual(least(2, []), [1, 0, 0])
        self.assertEqual(least(4, []), [1, 0, 0, 0, 0])

    def test_two_colours(self):
        self.assertEqual(least(2, [0, 1]), [2, 0, 1])
        self.assertEqual(least(3, [0, 1, 1, 2]), [2, 0, 1, 0])
        self.assertEqual(least(3, [0, 2, 1, 2]), [2, 0, 0, 1])
        self.assertEqual(least(5, [0, 2, 1, 2, 2, 3, 2, 4]), [2, 0, 0, 1, 0, 0])
        self.assertEqual(least(5, [0, 2, 0, 3, 0, 4, 1, 2, 1, 3, 1, 4]), [2, 0, 0, 1, 1, 1])

    def test_three_colours(self):
        self.assertEqual(least(3, [0, 1, 0, 2, 1, 2]), [3, 0, 1, 2])
        self.assertEqual(least(4, [0, 2, 0, 3, 1, 2, 1, 3, 2, 3]), [3, 0, 0, 1, 2])
        self.assertEqual(least(5, [0, 1, 0, 3, 0, 4, 1, 2, 1, 4, 2, 3, 2, 4, 3, 4]), [3, 0, 1, 0, 1, 2])
        self.assertEqual(least(5, [0, 1, 0, 2, 1, 2, 2, 3, 2, 4, 3, 4]), [3, 0, 1, 2, 0, 1])

    def test_four_colours(self):
        self.assertEqual(least(4, flat(all_among(range(4)))), [4, 0, 1, 2, 3])
        self.assertEqual(least(5, flat(all_among(range(4)) + [(4, 0)])), [4, 0, 1, 2, 3, 1])
        self.assertEqual(least(5, flat(arrow for arrow in all_among(range(5)) if arrow != (0, 1))), [4, 0, 0, 1, 2, 3])
        self.assertEqual(least(5, flat(arrow for arrow in all_among(range(5)) if arrow != (3, 4))), [4, 0, 1, 2, 3, 3])

    def test_five_colours(self):
        self.assertEqual(least(5, flat(all_among(range(5)))), [5, 0, 1, 2, 3, 4])

    def test_arrows_lead_either_way(self):
        self.assertEqual(least(2, [1, 0]), [2, 0, 1])
        self.assertEqual(least(3, [0, 2, 2, 1]), [2, 0, 0, 1])
        self.assertEqual(least(5, [1, 0, 1, 2, 3, 2, 3, 4]), [2, 0, 1, 0, 1, 0])
        self.assertEqual(least(3, [0, 2, 1, 0, 1, 2]), [3, 0, 1, 2])
        self.assertEqual(least(3, [1, 0, 2, 0, 2, 1]), [3, 0, 1, 2])
        self.assertEqual(least(4, [0, 3, 1, 0, 2, 0, 2, 1, 3, 1, 3, 2]), [4, 0, 1, 2, 3])
        self.assertEqual(least(5, [0, 1, 0, 3, 1, 2, 1, 4, 2, 0, 2, 3, 3, 1, 3, 4, 4, 0, 4, 2]), [5, 0, 1, 2, 3, 4])

    def test_several_parts(self):
        self.assertEqual(least(4, [0, 1, 2, 3]), [2, 0, 1, 0, 1])
        self.assertEqual(least(5, [3, 0, 4, 1]), [2, 0, 0, 0, 1, 1])
        self.assertEqual(least(5, [0, 1, 2, 3, 2, 4, 3, 4]), [3, 0, 1, 0, 1, 2])
        self.assertEqual(least(5, [0, 2, 0, 4, 2, 4, 3, 1]), [3, 0, 0, 1, 1, 2])
        self.assertEqual(least(5, flat(all_among(range(1, 5)))), [4, 0, 0, 1, 2, 3])
        self.assertEqual(least(5, flat(all_among((0, 1, 3, 4)))), [4, 0, 1, 0, 2, 3])

    def test_the_least_colour_at_a_place_may_be_too_dear_later(self):
        self.assertEqual(least(4, [0, 3, 1, 2, 2, 3]), [2, 0, 1, 0, 1])
        self.assertEqual(least(5, [0, 2, 1, 4, 3, 1, 4, 2]), [2, 0, 1, 1, 0, 0])
        self.assertEqual(least(5, [0, 3, 1, 2, 1, 4, 2, 3, 2, 4, 3, 4]), [3, 0, 1, 0, 1, 2])

    def test_arguments_by_name(self):
        self.assertEqual(least(n=2, first=[0, 1]), [2, 0, 1])


class NamedEdges(unittest.TestCase):
    def test_no_arrows(self):
        for n in range(1, 6):
            self.assertEqual(least(n, []), [1] + [0] * n)

    def test_an_arrow_from_a_place_to_itself(self):
        for n in range(1, 6):
            for place in range(n):
                self.assertEqual(least(n, [place, place]), [-33])

    def test_an_arrow_from_a_place_to_itself_among_others(self):
        self.assertEqual(least(3, [0, 0, 0, 1, 1, 2]), [-33])
        self.assertEqual(least(3, [0, 1, 1, 1, 1, 2]), [-33])
        self.assertEqual(least(3, [0, 1, 1, 2, 2, 2]), [-33])
        self.assertEqual(least(5, flat(all_among(range(5)) + [(4, 4)])), [-33])

    def test_arrows_both_ways(self):
        self.assertEqual(least(2, [0, 1, 1, 0]), [2, 0, 1])
        self.assertEqual(least(5, [3, 4, 4, 3]), [2, 0, 0, 0, 0, 1])
        self.assertEqual(least(3, [0, 1, 1, 0, 1, 2, 2, 1]), [2, 0, 1, 0])
        for n in range(1, 6):
            everything = flat((u, v) for u in range(n) for v in range(n) if u != v)
            self.assertEqual(least(n, everything), [n] + list(range(n)))

    def test_colours_are_counted_from_0(self):
        for n in range(1, 6):
            self.assertEqual(least(n, flat(all_among(range(n)))), [n] + list(range(n)))

    def test_a_round_of_an_even_number(self):
        self.assertEqual(least(4, [0, 1, 1, 2, 2, 3, 3, 0]), [2, 0, 1, 0, 1])
        self.assertEqual(least(4, [0, 2, 1, 3, 2, 1, 3, 0]), [2, 0, 0, 1, 1])
        self.assertEqual(least(5, [1, 2, 2, 3, 3, 4, 4, 1]), [2, 0, 0, 1, 0, 1])

    def test_a_round_of_an_odd_number(self):
        self.assertEqual(least(3, [0, 1, 1, 2, 2, 0]), [3, 0, 1, 2])
        self.assertEqual(least(5, [2, 3, 3, 4, 4, 2]), [3, 0, 0, 0, 1, 2])
        self.assertEqual(least(5, [0, 1, 1, 2, 2, 3, 3, 4, 4, 0]), [3, 0, 1, 0, 1, 2])
        self.assertEqual(least(5, [0, 2, 1, 3, 2, 4, 3, 0, 4, 1]), [3, 0, 0, 1, 1, 2])

    def test_one_place(self):
        self.assertEqual(least(1, []), [1, 0])
        self.assertEqual(least(1, [0, 0]), [-33])

    def test_five_places(self):
        self.assertEqual(least(5, [0, 1, 1, 2, 2, 3, 3, 4]), [2, 0, 1, 0, 1, 0])
        self.assertEqual(least(5, flat((u, v) for u in range(5) for v in range(5))), [-33])


class WrongInputs(unittest.TestCase):
    def test_not_a_graph(self):
        for name, (n, first) in NOT_GRAPHS.items():
            with self.subTest(name):
                self.assertEqual(least(n, list(first)), [-22])

    def test_not_a_graph_is_told_before_an_arrow_to_itself(self):
        for n, first in NOT_GRAPHS_WITH_AN_ARROW_TO_ITSELF + NOT_GRAPHS_THAT_COME_ROUND:
            with self.subTest(n=n, first=first):
                self.assertEqual(least(n, list(first)), [-22])


class WhatHolds(unittest.TestCase):
    def check_colours(self, n, arrows, count, given):
        self.assertEqual(len(given), n, arrows)
        self.assertTrue(set(given) <= set(range(count)) and is_colouring(given, arrows), (n, arrows))
        for fewer in range(count):
            self.assertIsNone(next(ways_one_by_one(n, fewer, arrows), None), (n, fewer, arrows))
        self.assertEqual(given, next(ways_one_by_one(n, count, arrows)), (n, arrows))

    def check_against_colours(self, n, arrows, answer):
        told = colours(n, flat(arrows))
        if answer[0] in (1, 2):
            self.assertEqual(told, [1] + answer[1:], (n, arrows))
        else:
            self.assertEqual(told[0], 0, (n, arrows))
            # A closed walk of one step tells two places.
            self.assertEqual(told[1] == 2, answer == [-33], (n, arrows))

    def check(self, n, arrows):
        answer = least(n, flat(arrows))
        if any(u == v for u, v in arrows):
            self.assertEqual(answer, [-33], (n, arrows))
        else:
            self.check_colours(n, arrows, answer[0], answer[1:])
        self.check_against_colours(n, arrows, answer)

    def test_many_graphs(self):
        for n, arrows in many_graphs():
            self.check(n, arrows)

    def test_every_graph_of_four_places(self):
        for arrows in every_graph(4):
            self.check(4, arrows)

    def test_every_choice_of_neighbours_among_five_places(self):
        for arrows in graphs_by_neighbours(5):
            self.check(5, arrows)


class NothingChangedNothingKept(CallsByThemselves, unittest.TestCase):
    call = staticmethod(least)
    CALLS = (
        (3, [0, 1, 1, 2]), (3, [0, 1, 1, 2, 2, 0]), (3, [0, 1, 1, 1]), (1, [0, 0]), (1, []), (5, []),
        (5, flat(all_among(range(5)))), (2, [0, 1, 0, 1]), (3, [0, 1, 1]), (6, [0, 1]), (3, [1, 2, 0, 1]),
        (5, [BIGGEST] * 60))


if __name__ == "__main__":
    unittest.main()
