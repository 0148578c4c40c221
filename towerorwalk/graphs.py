"""Graphs of 1 to 5 places: a map into a tower, or a walk; two colours, or a closed walk of an odd number of steps.

A graph comes as n, how many places it has, and a flat list of its arrows;
within this file its arrows are a list of pairs (source, target).
"""

MOST_PLACES = 5
HIGHEST_TOWER = 6
MOST_ARROWS_ASKED = 12

NOT_AS_TOLD = -22
COMES_ROUND = -33
NO_SUCH_WALK = -33
ARROW_TO_ITSELF = -33


def tower(n, k, first):
    """1 and the first map into the tower of k, or 0 and the first walk of k arrows."""
    if not is_graph(n, first) or k < 1 or k > HIGHEST_TOWER:
        return [NOT_AS_TOLD]
    arrows = pair_up(first)
    found = first_walk(n, k, arrows)
    if len(found) > 0:
        return [0] + found
    # Every map gives each place at least its height, so the heights are the
    # first map; and without a walk of k arrows they are all below k.
    return [1] + heights_of(n, arrows)


def longest(n, first):
    """How many arrows the longest walk has, if it doesn't come round."""
    if not is_graph(n, first):
        return [NOT_AS_TOLD]
    arrows = pair_up(first)
    if comes_round(n, arrows):
        return [COMES_ROUND]
    return [max(heights_of(n, arrows))]


def lift(n, first):
    """How many places there are, then of each how many arrows the longest walk has that ends there."""
    if not is_graph(n, first):
        return [NOT_AS_TOLD]
    arrows = pair_up(first)
    if comes_round(n, arrows):
        return [COMES_ROUND]
    return [n] + heights_of(n, arrows)


def walk(n, k, first):
    """How many places a walk of k arrows tells, then the first such walk, if there's one."""
    if not is_graph(n, first) or k > MOST_ARROWS_ASKED:
        return [NOT_AS_TOLD]
    found = first_walk(n, k, pair_up(first))
    if len(found) == 0:
        return [NO_SUCH_WALK]
    return [k + 1] + found


def colours(n, first):
    """1 and the first way to give two colours, or 0 and the first of the shortest odd closed walks by neighbours."""
    if not is_graph(n, first):
        return [NOT_AS_TOLD]
    arrows = pair_up(first)
    given = first_colouring(n, 2, arrows)
    if len(given) > 0:
        return [1] + given
    found = shortest_odd_closed_walk(n, both_ways(arrows))
    return [0, len(found)] + found


def least(n, first):
    """How few colours do, then the first way to give them, if no place has an arrow to itself."""
    if not is_graph(n, first):
        return [NOT_AS_TOLD]
    arrows = pair_up(first)
    if has_arrow_to_itself(arrows):
        return [ARROW_TO_ITSELF]
    count = 1
    given = first_colouring(n, count, arrows)
    # It ends: n colours, one for each place, always do.
    while len(given) == 0:
        count += 1
        given = first_colouring(n, count, arrows)
    return [count] + given


def is_graph(n, first):
    """Whether n and first tell a graph: few enough places, arrows within them that rise."""
    if n < 1 or n > MOST_PLACES or len(first) % 2 != 0:
        return False
    for place in first:
        if place < 0 or place >= n:
            return False
    return is_rising(pair_up(first))


def is_rising(arrows):
    """Whether each arrow is greater than the one before, so that none is told twice."""
    for index in range(1, len(arrows)):
        if arrows[index - 1] >= arrows[index]:
            return False
    return True


def pair_up(first):
    """The arrows as pairs; the list must have an even count of numbers."""
    return [(first[index], first[index + 1]) for index in range(0, len(first), 2)]


def has_arrow_to_itself(arrows):
    """Whether an arrow leads from a place to the same place."""
    return any([source == target for source, target in arrows])


def both_ways(arrows):
    """The arrows and each of them turned round, rising: a step to each neighbour."""
    return sorted(set(arrows + [(target, source) for source, target in arrows]))


def starts_by_length(k, ends, arrows):
    """For each length from 0 to k: of each place whether a walk of so many arrows leads from there to one of the ends.

    The ends are told by True or False for each place.
    """
    rows = [list(ends)]
    for length in range(k):
        shorter = rows[length]
        row = [False] * len(ends)
        for source, target in arrows:
            if shorter[target]:
                row[source] = True
        rows.append(row)
    return rows


def first_walk(n, k, arrows):
    """The places of the first walk of k arrows, or none if there's no such walk."""
    rows = starts_by_length(k, [True] * n, arrows)
    for place in range(n):
        if rows[k][place]:
            return first_walk_from(place, k, rows, arrows)
    return []


def first_closed_walk(n, k, arrows):
    """The places of the first walk of k arrows that ends where it starts, or none if there's no such walk."""
    for place in range(n):
        rows = starts_by_length(k, [other == place for other in range(n)], arrows)
        if rows[k][place]:
            return first_walk_from(place, k, rows, arrows)
    return []


def first_walk_from(start, k, rows, arrows):
    """The first walk of k arrows from a start that has one, by the rows of starts_by_length."""
    places = [start]
    # The least place from which the rest can still be walked is always right,
    # so no choice is ever taken back; the arrows rise, so the least comes first.
    for left in range(k - 1, -1, -1):
        here = places[-1]
        choices = [target for source, target in arrows if source == here and rows[left][target]]
        places.append(choices[0])
    return places


def shortest_odd_closed_walk(n, steps):
    """The first of the shortest closed walks of an odd number of steps, or none if there's no such walk."""
    # A closed walk that comes twice to a place on its way falls into two closed
    # walks there; if it's odd, one of the two is odd too, and shorter. So the
    # shortest comes once to each place, but for its end, and has at most n steps.
    for k in range(1, n + 1, 2):
        found = first_closed_walk(n, k, steps)
        if len(found) > 0:
            return found
    return []


def first_colouring(n, count, arrows):
    """The first way to give each place one of so many colours, or none if there's no way."""
    # Ways that are longer by a place come in the order of those that they go on,
    # so they stay in order and the first is always ahead.
    ways = [[]]
    for place in range(n):
        longer_ways = []
        for way in ways:
            for colour in range(count):
                longer = way + [colour]
                if not clashes(longer, arrows):
                    longer_ways.append(longer)
        ways = longer_ways
    if len(ways) == 0:
        return []
    return ways[0]


def clashes(given, arrows):
    """Whether an arrow leads to the same colour, among the places that have been given one so far."""
    for source, target in arrows:
        if max(source, target) < len(given) and given[source] == given[target]:
            return True
    return False


def comes_round(n, arrows):
    """Whether there's a walk that comes twice to a place."""
    # A walk of n arrows tells one more place than there are, so one of them twice;
    # and what comes round can be walked on for as long as one likes.
    return any(starts_by_length(n, [True] * n, arrows)[n])


def heights_of(n, arrows):
    """Of each place how many arrows the longest walk has that ends there; it must not come round."""
    heights = [0] * n
    # A walk that never comes twice to a place has fewer than n arrows, so after
    # n rounds no height can grow any more.
    for turn in range(n):
        for source, target in arrows:
            heights[target] = max(heights[target], heights[source] + 1)
    return heights
