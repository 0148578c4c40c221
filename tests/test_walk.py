import unittest

from tests.helper import (
    BIGGEST, NOT_GRAPHS, NOT_GRAPHS_THAT_COME_ROUND, CallsByThemselves, every_graph, first_walk, flat, is_walk,
    many_graphs, walks_one_by_one)
from towerorwalk.graphs import longest, tower, walk


class OrdinaryGraphs(unittest.TestCase):
    def test_the_only_walk_of_so_many_arrows(self):
        self.assertEqual(walk(2, 1, [0, 1]), [2, 0, 1])
        self.assertEqual(walk(3, 2, [0, 1, 1, 2]), [3, 0, 1, 2])
        self.assertEqual(walk(5, 4, [0, 1, 1, 2, 2, 3, 3, 4]), [5, 0, 1, 2, 3, 4])

    def test_places_need_not_be_numbered_along_the_arrows(self):
        self.assertEqual(walk(3, 2, [1, 0, 2, 1]), [3, 2, 1, 0])
        self.assertEqual(walk(5, 4, [0, 3, 1, 0, 3, 4, 4, 2]), [5, 1, 0, 3, 4, 2])

    def test_the_first_of_several(self):
        self.assertEqual(walk(4, 2, [0, 1, 0, 2, 1, 3, 2, 3]), [3, 0, 1, 3])
        self.assertEqual(walk(5, 1, [2, 4, 3, 0]), [2, 2, 4])
        self.assertEqual(walk(5, 2, [0, 1, 1, 2, 1, 3, 1, 4]), [3, 0, 1, 2])

    def test_a_lesser_place_that_leads_nowhere_is_passed_by(self):
        self.assertEqual(walk(4, 2, [0, 1, 0, 2, 2, 3]), [3, 0, 2, 3])
        self.assertEqual(walk(4, 2, [0, 1, 2, 3, 3, 1]), [3, 2, 3, 1])
        self.assertEqual(walk(5, 3, [0, 1, 0, 3, 1, 2, 3, 4, 4, 2]), [4, 0, 3, 4, 2])

    def test_a_walk_need_not_be_the_longest(self):
        self.assertEqual(walk(3, 1, [0, 1, 1, 2]), [2, 0, 1])
        self.assertEqual(walk(5, 2, [0, 1, 1, 2, 2, 3, 3, 4]), [3, 0, 1, 2])

    def test_no_walk_of_so_many_arrows(self):
        self.assertEqual(walk(2, 2, [0, 1]), [-33])
        self.assertEqual(walk(3, 2, [0, 1, 0, 2]), [-33])
        self.assertEqual(walk(3, 3, [0, 1, 1, 2]), [-33])
        self.assertEqual(walk(4, 2, [0, 1, 2, 3]), [-33])
        self.assertEqual(walk(5, 5, flat((u, v) for u in range(5) for v in range(u + 1, 5))), [-33])

    def test_arguments_by_name(self):
        self.assertEqual(walk(n=2, k=1, first=[0, 1]), [2, 0, 1])


class NamedEdges(unittest.TestCase):
    def test_no_arrows(self):
        for n in range(1, 6):
            self.assertEqual(walk(n, 0, []), [1, 0])
            for k in range(1, 13):
                self.assertEqual(walk(n, k, []), [-33])

    def test_an_arrow_from_a_place_to_itself(self):
        for n in range(1, 6):
            for place in range(n):
                for k in range(1, 13):
                    self.assertEqual(walk(n, k, [place, place]), [k + 1] + [place] * (k + 1))

    def test_an_arrow_from_a_place_to_itself_among_others(self):
        self.assertEqual(walk(2, 3, [0, 1, 1, 1]), [4, 0, 1, 1, 1])
        self.assertEqual(walk(2, 3, [0, 0, 0, 1]), [4, 0, 0, 0, 0])
        self.assertEqual(walk(3, 12, [0, 1, 1, 2, 2, 2]), [13, 0, 1] + [2] * 11)

    def test_arrows_both_ways(self):
        self.assertEqual(walk(2, 1, [0, 1, 1, 0]), [2, 0, 1])
        self.assertEqual(walk(2, 2, [0, 1, 1, 0]), [3, 0, 1, 0])
        self.assertEqual(walk(2, 12, [0, 1, 1, 0]), [13, 0, 1, 0, 1, 0, 1, 0, 1, 0, 1, 0, 1, 0])
        self.assertEqual(walk(5, 11, [3, 4, 4, 3]), [12, 3, 4, 3, 4, 3, 4, 3, 4, 3, 4, 3, 4])

    def test_a_walk_that_comes_twice_to_a_place(self):
        self.assertEqual(walk(3, 3, [0, 1, 1, 2, 2, 0]), [4, 0, 1, 2, 0])
        self.assertEqual(walk(3, 12, [0, 1, 1, 2, 2, 0]), [13, 0, 1, 2, 0, 1, 2, 0, 1, 2, 0, 1, 2, 0])
        self.assertEqual(walk(4, 5, [0, 2, 1, 2, 2, 3, 3, 1]), [6, 0, 2, 3, 1, 2, 3])
        self.assertEqual(walk(5, 3, [0, 1, 1, 2, 3, 4, 4, 3]), [4, 3, 4, 3, 4])

    def test_a_round_of_an_even_number(self):
        self.assertEqual(walk(5, 9, [1, 2, 2, 3, 3, 4, 4, 1]), [10, 1, 2, 3, 4, 1, 2, 3, 4, 1, 2])

    def test_no_arrow_asked_for(self):
        for n, first in ((1, [0, 0]), (2, [1, 0]), (3, [2, 2]), (5, [3, 4, 4, 3]), (5, [1, 2])):
            self.assertEqual(walk(n, 0, first), [1, 0])

    def test_one_arrow_asked_for(self):
        self.assertEqual(walk(2, 1, [1, 0]), [2, 1, 0])
        self.assertEqual(walk(3, 1, [1, 1, 2, 0]), [2, 1, 1])
        self.assertEqual(walk(5, 1, [0, 4, 1, 0]), [2, 0, 4])

    def test_twelve_arrows_asked_for(self):
        self.assertEqual(walk(5, 12, [0, 1, 1, 2, 2, 3, 3, 4, 4, 0]), [13, 0, 1, 2, 3, 4, 0, 1, 2, 3, 4, 0, 1, 2])
        self.assertEqual(walk(5, 12, [0, 1, 1, 2, 2, 3, 3, 4]), [-33])

    def test_one_place(self):
        self.assertEqual(walk(1, 0, []), [1, 0])
        self.assertEqual(walk(1, 1, []), [-33])
        self.assertEqual(walk(1, 12, [0, 0]), [13] + [0] * 13)

    def test_five_places_with_all_arrows_that_there_may_be(self):
        everything = flat((u, v) for u in range(5) for v in range(5))
        for k in range(13):
            self.assertEqual(walk(5, k, everything), [k + 1] + [0] * (k + 1))


class WrongInputs(unittest.TestCase):
    def test_not_a_graph(self):
        for name, (n, first) in NOT_GRAPHS.items():
            for k in (0, 1, 6, 12):
                with self.subTest(name, k=k):
                    self.assertEqual(walk(n, k, list(first)), [-22])

    def test_not_a_graph_though_it_would_come_round(self):
        for n, first in NOT_GRAPHS_THAT_COME_ROUND:
            with self.subTest(n=n, first=first):
                self.assertEqual(walk(n, 3, list(first)), [-22])

    def test_k_out_of_bounds(self):
        for k in (13, 14, 2 ** 31, BIGGEST):
            for n, first in ((1, [0, 0]), (3, [0, 1, 1, 2, 2, 0]), (5, [0, 1, 1, 0])):
                with self.subTest(k=k, n=n, first=first):
                    self.assertEqual(walk(n, k, first), [-22])

    def test_k_out_of_bounds_is_told_before_that_there_is_no_walk(self):
        for k in (13, 14, 2 ** 31, BIGGEST):
            for n, first in ((1, []), (3, [0, 1, 1, 2]), (5, []), (5, [0, 1, 1, 2, 2, 3, 3, 4])):
                with self.subTest(k=k, n=n, first=first):
                    self.assertEqual(walk(n, k, first), [-22])

    def test_several_at_once(self):
        for name, (n, first) in NOT_GRAPHS.items():
            for k in (13, BIGGEST):
                with self.subTest(name, k=k):
                    self.assertEqual(walk(n, k, list(first)), [-22])


class HeldAgainstTheWords(unittest.TestCase):
    def test_many_graphs(self):
        for n, arrows in many_graphs():
            for k in range(13):
                answer, found = walk(n, k, flat(arrows)), first_walk(n, k, arrows)
                self.assertEqual(answer, [-33] if found is None else [k + 1] + found, (n, k, arrows))
                self.assertTrue(answer == [-33] or is_walk(answer[1:], arrows), (n, k, arrows))

    def test_no_lesser_list_of_places_is_a_walk(self):
        for n, greatest in ((1, 12), (2, 8), (3, 4)):
            for arrows in every_graph(n):
                for k in range(greatest + 1):
                    found = next(walks_one_by_one(n, k, arrows), None)
                    self.assertEqual(walk(n, k, flat(arrows)), [-33] if found is None else [k + 1] + found,
                                     (n, k, arrows))

    def test_tower_maps_it_or_tells_the_same_walk(self):
        for n, arrows in many_graphs():
            for k in range(1, 7):
                answer, towered = walk(n, k, flat(arrows)), tower(n, k, flat(arrows))
                if answer == [-33]:
                    self.assertEqual(towered[0], 1, (n, k, arrows))
                else:
                    self.assertEqual(towered, [0] + answer[1:], (n, k, arrows))

    def test_there_is_a_walk_up_to_the_longest(self):
        for n, arrows in many_graphs():
            length = longest(n, flat(arrows))[0]
            for k in range(13):
                there = walk(n, k, flat(arrows)) != [-33]
                self.assertEqual(there, length == -33 or k <= length, (n, k, arrows))


class NothingChangedNothingKept(CallsByThemselves, unittest.TestCase):
    call = staticmethod(walk)
    CALLS = (
        (3, 2, [0, 1, 1, 2]), (3, 3, [0, 1, 1, 2]), (3, 0, [0, 1, 1, 2]), (2, 12, [0, 1, 1, 0]), (1, 12, [0, 0]),
        (5, 1, []), (2, 1, [0, 1, 0, 1]), (3, 2, [0, 1, 1]), (6, 2, [0, 1]), (3, 13, [0, 1]), (3, 13, [1, 2, 0, 1]),
        (5, 3, [BIGGEST] * 60))


if __name__ == "__main__":
    unittest.main()
