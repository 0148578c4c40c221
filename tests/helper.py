"""The document's words said again in the plainest way, and many graphs to hold answers against them."""

import itertools
import random

BIGGEST = 4294967295

# What isn't a graph as told: (n, first), whatever else is handed in.
NOT_GRAPHS = {
    "no places": (0, []),
    "no places, with an arrow": (0, [0, 0]),
    "six places": (6, []),
    "six places, with arrows": (6, [0, 1, 4, 5]),
    "the greatest n": (BIGGEST, []),
    "the greatest n, with arrows": (BIGGEST, [0, 1]),
    "one number": (1, [0]),
    "an odd count": (3, [0, 1, 1]),
    "an odd count in rising order": (5, [0, 1, 1, 2, 2]),
    "59 numbers": (5, [0] * 59),
    "a source that isn't there": (3, [3, 0]),
    "a target that isn't there": (3, [0, 3]),
    "a target that isn't there, of one place": (1, [0, 1]),
    "a target that isn't there, of five places": (5, [0, 5]),
    "a place that isn't there, behind good arrows": (4, [0, 1, 1, 2, 3, 4]),
    "the greatest number as a source": (5, [BIGGEST, 0]),
    "the greatest number as a target": (5, [0, BIGGEST]),
    "the greatest numbers alone": (5, [BIGGEST, BIGGEST]),
    "a number that's right in its lowest bits": (2, [0, 2 ** 31 + 1]),
    "an arrow told twice": (2, [0, 1, 0, 1]),
    "an arrow to itself told twice": (1, [0, 0, 0, 0]),
    "an arrow told twice at the end": (4, [0, 1, 1, 2, 2, 3, 2, 3]),
    "sources that don't rise": (3, [1, 2, 0, 1]),
    "targets that don't rise": (3, [0, 2, 0, 1]),
    "sources that don't rise though targets do": (3, [1, 0, 0, 1]),
    "the last arrow doesn't rise": (5, [0, 1, 1, 2, 2, 3, 1, 4]),
    "an arrow told twice with another between": (3, [0, 1, 0, 2, 0, 1]),
    "60 numbers": (5, [0] * 60),
    "60 great numbers": (5, [BIGGEST] * 60),
    "60 numbers that rise": (5, [number for u in range(6) for v in range(5) for number in (u, v)]),
    "60 numbers, the last arrows told again": (
        5, [number for u in range(5) for v in range(5) for number in (u, v)] + [4, 4] * 5),
    "no places and an odd count": (0, [0]),
    "six places and an arrow told twice": (6, [0, 5, 0, 5]),
    "an odd count of great numbers": (BIGGEST, [BIGGEST]),
    "falling and not there": (3, [7, 1, 0, 9]),
}

# What isn't a graph as told, and would come round if it were one.
NOT_GRAPHS_THAT_COME_ROUND = (
    (1, [0, 0, 0]), (1, [0, 0, 0, 0]), (2, [1, 0, 0, 1]), (2, [0, 1, 1, 0, 1]), (2, [0, 1, 1, 0, 2, 2]),
    (0, [0, 0]), (6, [0, 1, 1, 0]), (6, [5, 5]), (BIGGEST, [0, 0]), (3, [0, 1, 1, 2, 2, 0, 2, 0]),
    (3, [0, 0, BIGGEST, BIGGEST]), (5, [0, 0] * 30))


class ReadOnlyList(list):
    """A list that complains as soon as it's changed, even if it were changed back later."""

    def refuse(self, *args, **kwargs):
        raise AssertionError("the list handed in was changed")

    append = clear = extend = insert = pop = remove = reverse = sort = refuse
    __setitem__ = __delitem__ = __iadd__ = __imul__ = refuse


class CallsByThemselves:
    """What each call must keep to, for a TestCase that sets call, and CALLS: what is handed in, the list last."""

    def call_with_copies(self, handed_in):
        return self.call(*handed_in[:-1], list(handed_in[-1]))

    def test_the_list_handed_in_is_as_it_was(self):
        for handed_in in self.CALLS:
            first = ReadOnlyList(handed_in[-1])
            self.call(*handed_in[:-1], first)
            self.assertEqual(first, handed_in[-1])

    def test_the_same_call_answers_the_same_again(self):
        before = [self.call_with_copies(handed_in) for handed_in in self.CALLS]
        again = [self.call_with_copies(handed_in) for handed_in in reversed(self.CALLS)]
        self.assertEqual(before, again[::-1])

    def test_an_answer_is_the_callers_own(self):
        for handed_in in self.CALLS:
            answer = self.call(*handed_in)
            copy = list(answer)
            answer[0] = 98
            answer.append(99)
            self.assertEqual(self.call(*handed_in), copy)
            self.assertIsNot(answer, handed_in[-1])

    def test_answers_are_lists_of_whole_numbers(self):
        for handed_in in self.CALLS:
            answer = self.call_with_copies(handed_in)
            self.assertIs(type(answer), list)
            self.assertEqual([number for number in answer if type(number) is not int], [])


def flat(arrows):
    return [place for arrow in arrows for place in arrow]


def is_map(given, arrows, k):
    """Into the tower of k: it has an arrow from each place to each that has a greater number."""
    return all(0 <= place < k for place in given) and all(given[u] < given[v] for u, v in arrows)


def first_map(n, k, arrows):
    """product tells what it tells in order, so the first map that it comes to is the first there is."""
    for given in itertools.product(range(k), repeat=n):
        if is_map(given, arrows, k):
            return list(given)
    return None


def is_walk(places, arrows):
    return all(step in arrows for step in zip(places, places[1:]))


def walks_one_by_one(n, k, arrows):
    """All walks of k arrows, in order, found out of all lists of k and 1 places."""
    for places in itertools.product(range(n), repeat=k + 1):
        if is_walk(places, arrows):
            yield list(places)


def walk_that_begins(n, k, arrows, begun):
    """The first walk of k arrows that begins so, or None."""
    if len(begun) == k + 1:
        return begun
    for after in range(n):
        if not begun or (begun[-1], after) in arrows:
            found = walk_that_begins(n, k, arrows, begun + [after])
            if found is not None:
                return found
    return None


def first_walk(n, k, arrows):
    return walk_that_begins(n, k, arrows, [])


def longest_walk(n, arrows):
    """How many arrows the longest walk has, or None if one comes twice to a place: by all walks there are."""
    length, walks = 0, [[place] for place in range(n)]
    while True:
        longer = [places + [v] for places in walks for u, v in arrows if u == places[-1]]
        if any(len(set(places)) < len(places) for places in longer):
            return None
        if not longer:
            return length
        length, walks = length + 1, longer


def longest_that_ends(n, arrows):
    """Of each place how many arrows the longest walk has that ends there, or None if one comes twice to a place."""
    if longest_walk(n, arrows) is None:
        return None
    # No walk comes twice to a place, so none has n arrows.
    walks = [places for k in range(n) for places in walks_one_by_one(n, k, arrows)]
    return [max(len(places) - 1 for places in walks if places[-1] == place) for place in range(n)]


def is_colouring(given, arrows):
    return all(given[u] != given[v] for u, v in arrows)


def ways_one_by_one(n, count, arrows):
    """All ways to give so many colours, in order, found out of all lists of n colours."""
    for given in itertools.product(range(count), repeat=n):
        if is_colouring(given, arrows):
            yield list(given)


def is_closed_walk(places, arrows):
    """By neighbours: whichever way the arrows lead."""
    return places[0] == places[-1] and all((u, v) in arrows or (v, u) in arrows for u, v in zip(places, places[1:]))


def closed_walks_one_by_one(n, k, arrows):
    """All closed walks by neighbours of k steps, in order, found out of all lists of k places and the first again."""
    arrows = set(arrows)
    for places in itertools.product(range(n), repeat=k):
        closed = places + places[:1]
        if is_closed_walk(closed, arrows):
            yield list(closed)


def every_graph(n):
    pairs = list(itertools.product(range(n), repeat=2))
    for chosen in itertools.product((False, True), repeat=len(pairs)):
        yield [pair for pair, taken in zip(pairs, chosen) if taken]


def some_graphs(n, count):
    """Graphs with few and with many arrows, the same ones every time."""
    source = random.Random(n)
    pairs = list(itertools.product(range(n), repeat=2))
    for _ in range(count):
        share = source.choice((0.1, 0.2, 0.3, 0.5, 0.8))
        yield [pair for pair in pairs if source.random() < share]


def graphs_that_rise(n):
    """Every graph whose arrows lead upwards, then with its places named anew: none comes round."""
    source = random.Random(n)
    pairs = list(itertools.combinations(range(n), 2))
    for chosen in itertools.product((False, True), repeat=len(pairs)):
        arrows = [pair for pair, taken in zip(pairs, chosen) if taken]
        yield arrows
        names = list(range(n))
        source.shuffle(names)
        yield sorted((names[u], names[v]) for u, v in arrows)


def graphs_by_neighbours(n):
    """For every choice of neighbours one graph: between two of them an arrow one way, the other way, or both ways."""
    source = random.Random(n)
    pairs = list(itertools.combinations_with_replacement(range(n), 2))
    for chosen in itertools.product((False, True), repeat=len(pairs)):
        arrows = set()
        for (u, v), taken in zip(pairs, chosen):
            if taken:
                arrows.update(source.choice(([(u, v)], [(v, u)], [(u, v), (v, u)])))
        yield sorted(arrows)


def many_graphs():
    """Pairs (n, arrows): all of 1 to 3 places, many of 4 and of 5."""
    for n in (1, 2, 3):
        for arrows in every_graph(n):
            yield n, arrows
    for n in (4, 5):
        for arrows in graphs_that_rise(n):
            yield n, arrows
        for arrows in some_graphs(n, 400):
            yield n, arrows
