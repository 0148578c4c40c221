import unittest

from tests.helper import (
    BIGGEST, NOT_GRAPHS, CallsByThemselves, every_graph, first_map, first_walk, flat, is_map, is_walk, many_graphs,
    walks_one_by_one)
from towerorwalk.graphs import tower


class OrdinaryGraphs(unittest.TestCase):
    def test_mapped_into_the_tower(self):
        self.assertEqual(tower(3, 3, [0, 1, 1, 2]), [1, 0, 1, 2])
        self.assertEqual(tower(3, 2, [0, 1, 0, 2]), [1, 0, 1, 1])
        self.assertEqual(tower(4, 3, [0, 1, 1, 2]), [1, 0, 1, 2, 0])
        self.assertEqual(tower(5, 4, [0, 2, 1, 2, 2, 3, 2, 4, 4, 3]), [1, 0, 0, 1, 3, 2])

    def test_places_need_not_be_numbered_along_the_arrows(self):
        self.assertEqual(tower(3, 3, [1, 0, 2, 1]), [1, 2, 1, 0])
        self.assertEqual(tower(5, 5, [0, 3, 1, 0, 3, 4, 4, 2]), [1, 1, 0, 4, 2, 3])
        self.assertEqual(tower(5, 5, [1, 0, 2, 1, 3, 2, 4, 3]), [1, 4, 3, 2, 1, 0])

    def test_a_short_and_a_long_way_to_a_place(self):
        self.assertEqual(tower(4, 4, [0, 1, 0, 3, 1, 2, 2, 3]), [1, 0, 1, 2, 3])

    def test_first_map_stays_low_in_a_high_tower(self):
        self.assertEqual(tower(2, 6, [0, 1]), [1, 0, 1])

    def test_first_walk_where_there_is_no_map(self):
        self.assertEqual(tower(3, 2, [0, 1, 1, 2]), [0, 0, 1, 2])
        self.assertEqual(tower(4, 2, [0, 1, 1, 3, 2, 1]), [0, 0, 1, 3])
        self.assertEqual(tower(5, 4, [1, 0, 2, 1, 3, 2, 4, 3]), [0, 4, 3, 2, 1, 0])

    def test_first_walk_is_the_first_of_several(self):
        self.assertEqual(tower(4, 2, [0, 1, 0, 2, 1, 3, 2, 3]), [0, 0, 1, 3])
        self.assertEqual(tower(5, 1, [2, 4, 3, 0]), [0, 2, 4])

    def test_first_walk_passes_by_a_lesser_place_that_leads_nowhere(self):
        self.assertEqual(tower(4, 2, [0, 1, 0, 2, 2, 3]), [0, 0, 2, 3])
        self.assertEqual(tower(4, 2, [0, 1, 2, 3, 3, 1]), [0, 2, 3, 1])

    def test_one_more_place_in_the_tower_decides(self):
        chain = [0, 1, 1, 2, 2, 3, 3, 4]
        for k in (1, 2, 3, 4):
            self.assertEqual(tower(5, k, chain), [0] + list(range(k + 1)))
        for k in (5, 6):
            self.assertEqual(tower(5, k, chain), [1, 0, 1, 2, 3, 4])

    def test_arguments_by_name(self):
        self.assertEqual(tower(n=2, k=2, first=[0, 1]), [1, 0, 1])


class NamedEdges(unittest.TestCase):
    def test_no_arrows(self):
        for n in range(1, 6):
            for k in range(1, 7):
                self.assertEqual(tower(n, k, []), [1] + [0] * n)

    def test_an_arrow_from_a_place_to_itself(self):
        for k in range(1, 7):
            self.assertEqual(tower(1, k, [0, 0]), [0] + [0] * (k + 1))
            self.assertEqual(tower(5, k, [4, 4]), [0] + [4] * (k + 1))

    def test_a_walk_into_an_arrow_to_itself(self):
        self.assertEqual(tower(2, 3, [0, 1, 1, 1]), [0, 0, 1, 1, 1])
        self.assertEqual(tower(2, 3, [0, 0, 0, 1]), [0, 0, 0, 0, 0])

    def test_arrows_both_ways(self):
        self.assertEqual(tower(2, 1, [0, 1, 1, 0]), [0, 0, 1])
        self.assertEqual(tower(2, 2, [0, 1, 1, 0]), [0, 0, 1, 0])
        self.assertEqual(tower(2, 6, [0, 1, 1, 0]), [0, 0, 1, 0, 1, 0, 1, 0])
        self.assertEqual(tower(5, 6, [3, 4, 4, 3]), [0, 3, 4, 3, 4, 3, 4, 3])

    def test_a_walk_that_comes_twice_to_a_place(self):
        self.assertEqual(tower(3, 6, [0, 1, 1, 2, 2, 0]), [0, 0, 1, 2, 0, 1, 2, 0])
        self.assertEqual(tower(4, 4, [0, 2, 1, 2, 2, 3, 3, 1]), [0, 0, 2, 3, 1, 2])
        self.assertEqual(tower(5, 6, [0, 1, 1, 2, 2, 3, 3, 4, 4, 0]), [0, 0, 1, 2, 3, 4, 0, 1])
        self.assertEqual(tower(5, 6, [0, 1, 1, 2, 3, 4, 4, 3]), [0, 3, 4, 3, 4, 3, 4, 3])

    def test_a_tower_of_one(self):
        self.assertEqual(tower(1, 1, []), [1, 0])
        self.assertEqual(tower(2, 1, [0, 1]), [0, 0, 1])
        self.assertEqual(tower(2, 1, [1, 0]), [0, 1, 0])
        self.assertEqual(tower(1, 1, [0, 0]), [0, 0, 0])

    def test_a_tower_of_six(self):
        self.assertEqual(tower(5, 6, [0, 1, 0, 2, 0, 3, 0, 4, 1, 2, 1, 3, 1, 4, 2, 3, 2, 4, 3, 4]),
                         [1, 0, 1, 2, 3, 4])
        self.assertEqual(tower(1, 6, []), [1, 0])

    def test_all_arrows_that_there_may_be(self):
        everything = flat((u, v) for u in range(5) for v in range(5))
        for k in range(1, 7):
            self.assertEqual(tower(5, k, everything), [0] + [0] * (k + 1))


class WrongInputs(unittest.TestCase):
    def test_not_a_graph(self):
        for name, (n, first) in NOT_GRAPHS.items():
            for k in (1, 3, 6):
                with self.subTest(name, k=k):
                    self.assertEqual(tower(n, k, list(first)), [-22])

    def test_k_out_of_bounds(self):
        for k in (0, 7, 8, 12, 2 ** 31, BIGGEST):
            for n, first in ((1, []), (1, [0, 0]), (3, [0, 1, 1, 2]), (5, []), (5, [0, 1, 1, 0])):
                with self.subTest(k=k, n=n, first=first):
                    self.assertEqual(tower(n, k, first), [-22])

    def test_several_at_once(self):
        for name, (n, first) in NOT_GRAPHS.items():
            for k in (0, 7, BIGGEST):
                with self.subTest(name, k=k):
                    self.assertEqual(tower(n, k, list(first)), [-22])

    def test_the_bounds_themselves_are_good(self):
        self.assertEqual(tower(1, 1, []), [1, 0])
        self.assertEqual(tower(5, 6, [0, 4]), [1, 0, 0, 0, 0, 1])


class WhatHolds(unittest.TestCase):
    def check(self, n, k, arrows):
        answer = tower(n, k, flat(arrows))
        mapped, walked = first_map(n, k, arrows), first_walk(n, k, arrows)
        self.assertNotEqual(mapped is None, walked is None, (n, k, arrows))
        if walked is None:
            self.assertEqual(answer, [1] + mapped, (n, k, arrows))
            self.assertTrue(len(answer) == n + 1 and is_map(answer[1:], arrows, k), (n, k, arrows))
        else:
            self.assertEqual(answer, [0] + walked, (n, k, arrows))
            self.assertTrue(len(answer) == k + 2 and is_walk(answer[1:], arrows), (n, k, arrows))

    def test_one_or_the_other(self):
        for n, arrows in many_graphs():
            for k in range(1, 7):
                self.check(n, k, arrows)

    def test_no_lesser_list_of_places_is_a_walk(self):
        for n in (1, 2, 3):
            for arrows in every_graph(n):
                for k in (1, 2, 3, 4):
                    found = next(walks_one_by_one(n, k, arrows), None)
                    answer = tower(n, k, flat(arrows))
                    self.assertEqual(answer[1:] if answer[0] == 0 else None, found, (n, k, arrows))


class NothingChangedNothingKept(CallsByThemselves, unittest.TestCase):
    call = staticmethod(tower)
    CALLS = (
        (3, 3, [0, 1, 1, 2]), (3, 2, [0, 1, 1, 2]), (2, 6, [0, 1, 1, 0]), (5, 1, []), (2, 2, [0, 1, 0, 1]),
        (3, 2, [0, 1, 1]), (6, 2, [0, 1]), (3, 7, [1, 2, 0, 1]), (5, 3, [BIGGEST] * 60))


if __name__ == "__main__":
    unittest.main()
