"""What the document promises over the whole program: the six calls side by side."""

import importlib.util
import random
import unittest

from tests.helper import (
    BIGGEST, ReadOnlyList, every_graph, flat, graphs_by_neighbours, graphs_that_rise, is_closed_walk, is_colouring,
    is_map, is_walk, some_graphs)
from towerorwalk import graphs

WITH_K = ("tower", "walk")
WITHOUT_K = ("longest", "lift", "colours", "least")

HANDED_IN = (
    (1, []), (1, [0, 0]), (2, [0, 1]), (2, [0, 1, 1, 0]), (3, [0, 1, 1, 2]), (3, [0, 1, 1, 2, 2, 0]),
    (3, [0, 1, 1, 1]), (4, [0, 1, 1, 2, 2, 3, 3, 0]), (4, [0, 3, 1, 2, 2, 3]), (5, []), (5, [0, 1, 1, 2, 2, 3, 3, 4]),
    (5, [0, 1, 1, 2, 2, 3, 3, 4, 4, 0]), (5, flat((u, v) for u in range(5) for v in range(u + 1, 5))),
    (5, flat((u, v) for u in range(5) for v in range(5))), (0, []), (6, [0, 1]), (3, [0, 1, 1]), (2, [0, 1, 0, 1]),
    (3, [1, 2, 0, 1]), (3, [0, 3]), (BIGGEST, [BIGGEST]), (5, [BIGGEST] * 60))


def graphs_to_try():
    for n in (1, 2, 3):
        for arrows in every_graph(n):
            yield n, arrows
    for n in (4, 5):
        for arrows in graphs_that_rise(n):
            yield n, arrows
        for arrows in some_graphs(n, 1500):
            yield n, arrows
    for arrows in graphs_by_neighbours(4):
        yield 4, arrows


def every_call():
    """Triples (name, what is handed in ahead of the list, the list)."""
    for n, first in HANDED_IN:
        for name in WITHOUT_K:
            yield name, (n,), first
        for name in WITH_K:
            for k in (0, 1, 2, 6, 7, 12, 13, BIGGEST):
                yield name, (n, k), first


def program_never_called():
    """The module loaded anew: in it no call has been before."""
    spec = importlib.util.find_spec("towerorwalk.graphs")
    module = importlib.util.module_from_spec(spec)
    spec.loader.exec_module(module)
    return module


class WhatHolds(unittest.TestCase):
    def check_tower_or_walk(self, n, arrows):
        for k in range(1, 7):
            towered, walked = graphs.tower(n, k, flat(arrows)), graphs.walk(n, k, flat(arrows))
            if towered[0] == 1:
                self.assertTrue(is_map(towered[1:], arrows, k), (n, k, arrows))
                self.assertEqual(walked, [-33], (n, k, arrows))
            else:
                self.assertTrue(is_walk(towered[1:], arrows), (n, k, arrows))
                self.assertEqual([towered[0], walked], [0, [k + 1] + towered[1:]], (n, k, arrows))

    def test_a_one_or_the_other(self):
        for n, arrows in graphs_to_try():
            self.check_tower_or_walk(n, arrows)

    def check_lift(self, n, arrows):
        lifted, length = graphs.lift(n, flat(arrows)), graphs.longest(n, flat(arrows))[0]
        mapped = [k for k in range(1, 7) if graphs.tower(n, k, flat(arrows))[0] == 1]
        if lifted == [-33]:
            self.assertEqual([length, mapped], [-33, []], (n, arrows))
        else:
            self.assertTrue(is_map(lifted[1:], arrows, length + 1), (n, arrows))
            self.assertEqual(mapped, list(range(length + 1, 7)), (n, arrows))

    def test_b_by_the_lift_into_the_least_tower(self):
        for n, arrows in graphs_to_try():
            self.check_lift(n, arrows)

    def check_two_colours(self, n, arrows):
        told = graphs.colours(n, flat(arrows))
        if told[0] == 1:
            self.assertTrue(len(told) == n + 1 and is_colouring(told[1:], arrows), (n, arrows))
        else:
            self.assertTrue(told[1] % 2 == 0 and is_closed_walk(told[2:], arrows), (n, arrows))
        self.assertEqual(told[0] == 1, graphs.least(n, flat(arrows))[0] in (1, 2), (n, arrows))

    def test_c_two_colours_or_an_odd_closed_walk(self):
        for n, arrows in graphs_to_try():
            self.check_two_colours(n, arrows)

    def check_fewest_colours(self, n, arrows):
        told, length = graphs.least(n, flat(arrows)), graphs.longest(n, flat(arrows))[0]
        if told == [-33]:
            self.assertEqual(length, -33, (n, arrows))
        else:
            self.assertTrue(is_colouring(told[1:], arrows), (n, arrows))
            # Were one of the colours left out, fewer would do.
            self.assertEqual(sorted(set(told[1:])), list(range(told[0])), (n, arrows))
            # What is mapped into a tower has its places for colours.
            self.assertTrue(length == -33 or told[0] <= length + 1, (n, arrows))

    def test_d_fewer_colours_never_do(self):
        for n, arrows in graphs_to_try():
            self.check_fewest_colours(n, arrows)


class WhatIsAnswered(unittest.TestCase):
    def how_many_numbers(self, name, handed_in, answer):
        """As the interface tells it of each call, for an answer that's no refusal."""
        if name == "tower":
            return 1 + handed_in[0] if answer[0] == 1 else 1 + handed_in[1] + 1
        if name == "walk":
            return 1 + handed_in[1] + 1
        if name == "longest":
            return 1
        if name == "colours" and answer[0] == 0:
            return 2 + answer[1]
        return 1 + handed_in[0]

    def test_one_list_with_no_other_counts(self):
        for name, ahead, first in every_call():
            with self.subTest(name, ahead=ahead, first=first):
                answer = getattr(graphs, name)(*ahead, list(first))
                self.assertEqual([type(part) for part in [answer] + answer], [list] + [int] * len(answer))
                if answer[0] < 0:
                    self.assertIn(answer, ([-22], [-33]))
                else:
                    self.assertEqual(len(answer), self.how_many_numbers(name, ahead, answer))
                    self.assertGreaterEqual(min(answer), 0)

    def test_what_is_not_as_told_is_refused_by_all(self):
        for n, first in ((0, [0, 0]), (6, [0, 1]), (3, [0, 1, 1]), (2, [0, 2]), (2, [0, 1, 0, 1]), (3, [1, 2, 0, 1])):
            for name in WITHOUT_K + WITH_K:
                ahead = (n, 3) if name in WITH_K else (n,)
                self.assertEqual(getattr(graphs, name)(*ahead, list(first)), [-22], (name, n, first))


class NothingChangedNothingKept(unittest.TestCase):
    def test_whatever_was_called_in_between(self):
        calls = [(name, ahead, ReadOnlyList(first), list(first)) for name, ahead, first in every_call()]
        alone = [getattr(program_never_called(), name)(*ahead, copy) for name, ahead, first, copy in calls]
        source = random.Random(0)
        for _ in range(10):
            order = list(range(len(calls)))
            source.shuffle(order)
            for index in order:
                name, ahead, first, copy = calls[index]
                answer = getattr(graphs, name)(*ahead, first)
                self.assertEqual(answer, alone[index], (name, ahead, copy))
                self.assertEqual(first, copy, (name, ahead))
                # What a caller does to an answer must not come back in a later one.
                answer.append(99)

    def test_one_list_handed_to_all_six_in_turn(self):
        for n, first in HANDED_IN:
            shared = ReadOnlyList(first)
            for name in WITHOUT_K + WITH_K:
                ahead = (n, 2) if name in WITH_K else (n,)
                before = getattr(graphs, name)(*ahead, list(first))
                self.assertEqual(getattr(graphs, name)(*ahead, shared), before, (name, n, first))
                self.assertEqual(shared, first, (name, n))


if __name__ == "__main__":
    unittest.main()
