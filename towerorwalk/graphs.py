"""Graphs of 1 to 5 places: is there a map into a tower, or a walk, and how long is the longest?

A graph comes as n, how many places it has, and a flat list of its arrows;
within this file its arrows are a list of pairs (source, target).
"""

MOST_PLACES = 5
HIGHEST_TOWER = 6
MOST_ARROWS_ASKED = 12

NOT_AS_TOLD = -22
COMES_ROUND = -33
NO_SUCH_WALK = -33


def tower(n, k, first):
    """1 and the first map into the tower of k, or 0 and the first walk of k arrows."""
    if not is_graph(n, first) or k < 1 or k > HIGHEST_TOWER:
        return [NOT_AS_TOLD]
    arrows = pair_up(first)
    found = first_walk(n, k, arrows)
    if len(found) > 0:
        return [0] + found
    # Every map gives each place at least its height, so the heights are the
    # first map; and without a walk of k arrows they are all below k.
    return [1] + heights_of(n, arrows)


def longest(n, first):
    """How many arrows the longest walk has, if it doesn't come round."""
    if not is_graph(n, first):
        return [NOT_AS_TOLD]
    arrows = pair_up(first)
    if comes_round(n, arrows):
        return [COMES_ROUND]
    return [max(heights_of(n, arrows))]


def lift(n, first):
    """How many places there are, then of each how many arrows the longest walk has that ends there."""
    if not is_graph(n, first):
        return [NOT_AS_TOLD]
    arrows = pair_up(first)
    if comes_round(n, arrows):
        return [COMES_ROUND]
    return [n] + heights_of(n, arrows)


def walk(n, k, first):
    """How many places a walk of k arrows tells, then the first such walk, if there's one."""
    if not is_graph(n, first) or k > MOST_ARROWS_ASKED:
        return [NOT_AS_TOLD]
    found = first_walk(n, k, pair_up(first))
    if len(found) == 0:
        return [NO_SUCH_WALK]
    return [k + 1] + found


def is_graph(n, first):
    """Whether n and first tell a graph: few enough places, arrows within them that rise."""
    if n < 1 or n > MOST_PLACES or len(first) % 2 != 0:
        return False
    for place in first:
        if place < 0 or place >= n:
            return False
    return is_rising(pair_up(first))


def is_rising(arrows):
    """Whether each arrow is greater than the one before, so that none is told twice."""
    for index in range(1, len(arrows)):
        if arrows[index - 1] >= arrows[index]:
            return False
    return True


def pair_up(first):
    """The arrows as pairs; the list must have an even count of numbers."""
    return [(first[index], first[index + 1]) for index in range(0, len(first), 2)]


def starts_by_length(n, k, arrows):
    """For each length from 0 to k: of each place whether a walk of so many arrows starts there."""
    rows = [[True] * n]
    for length in range(k):
        shorter = rows[length]
        row = [False] * n
        for source, target in arrows:
            if shorter[target]:
                row[source] = True
        rows.append(row)
    return rows


def first_walk(n, k, arrows):
    """The places of the first walk of k arrows, or none if there's no such walk."""
    rows = starts_by_length(n, k, arrows)
    choices = [place for place in range(n) if rows[k][place]]
    if len(choices) == 0:
        return []
    # The least place from which the rest can still be walked is always right,
    # so no choice is ever taken back; the arrows rise, so the least comes first.
    places = [choices[0]]
    for left in range(k - 1, -1, -1):
        here = places[-1]
        choices = [target for source, target in arrows if source == here and rows[left][target]]
        places.append(choices[0])
    return places


def comes_round(n, arrows):
    """Whether there's a walk that comes twice to a place."""
    # A walk of n arrows tells one more place than there are, so one of them twice;
    # and what comes round can be walked on for as long as one likes.
    return any(starts_by_length(n, n, arrows)[n])


def heights_of(n, arrows):
    """Of each place how many arrows the longest walk has that ends there; it must not come round."""
    heights = [0] * n
    # A walk that never comes twice to a place has fewer than n arrows, so after
    # n rounds no height can grow any more.
    for turn in range(n):
        for source, target in arrows:
            heights[target] = max(heights[target], heights[source] + 1)
    return heights
