"""Pairs of points as a tree that grows from point 0: paths, ends, coins and rings.

Lots of pairs are told here by their places in the pairs, and flips is a list with 1 for each pair
whose word clashes with some word, and 0 for each other one.
"""


def near_points(pairs):
    """For each point the list of the places of its pairs, each with the other point there."""
    near = {}
    for at, (low, high) in enumerate(pairs):
        near.setdefault(low, []).append((at, high))
        near.setdefault(high, []).append((at, low))
    return near


def root_paths(pairs):
    """For each point the list of the places of the pairs that lead to it from point 0."""
    near = near_points(pairs)
    paths = {0: []}
    edge = [0]
    while edge:
        following = []
        for point in edge:
            for at, far in near[point]:
                if far not in paths:
                    paths[far] = paths[point] + [at]
                    following.append(far)
        edge = following
    return paths


def path_between(paths, one, other):
    """The list of the places of the pairs that lead from one point to another one."""
    mine = paths[one]
    yours = paths[other]
    common = 0
    while common < len(mine) and common < len(yours) and mine[common] == yours[common]:
        common = common + 1
    return mine[common:][::-1] + yours[common:]


def ends_by(pairs, places):
    """The ascending tuple of the points that are in an odd number of the pairs at these places."""
    counts = {}
    for at in places:
        for point in pairs[at]:
            counts[point] = counts.get(point, 0) + 1
    return tuple(sorted([point for point in counts if counts[point] % 2 == 1]))


def count_points(pairs):
    """How many points the pairs have."""
    return len(set([point for pair in pairs for point in pair]))


def lots_merged(one, other):
    """The ascending list of the numbers that are in just one of two lists without like numbers."""
    return sorted([k for k in one if k not in other] + [k for k in other if k not in one])


def places_with_ends(paths, ends):
    """The ascending list of the places of pairs, all of the tree, with just these points as ends."""
    places = []
    for point in ends:
        places = lots_merged(places, paths[point])
    return places


def tree_places(paths):
    """A dict with the places of the pairs of the tree as its keys."""
    return {at: True for point in paths for at in paths[point]}


def ring_at(pairs, paths, at):
    """The ascending list of the places that make a ring of the pair at this place and the tree."""
    low, high = pairs[at]
    return lots_merged([at], path_between(paths, low, high))


def sides_of(paths, flips):
    """For each point 1 or 0, 0 for point 0, so that the two points of a pair of the tree differ if it flips."""
    return {point: sum([flips[at] for at in paths[point]]) % 2 for point in paths}


def wrong_place(pairs, sides, flips):
    """The first place of a pair whose points do not differ as it flips, or None."""
    for at, (low, high) in enumerate(pairs):
        if (sides[low] + sides[high]) % 2 != flips[at]:
            return at
    return None


def fewer_points(sides):
    """The coins: the points on the side that has fewer, or, if they are as many, has point 0."""
    ones = sorted([point for point in sides if sides[point] == 1])
    if 2 * len(ones) < len(sides):
        return tuple(ones)
    return tuple(sorted([point for point in sides if sides[point] == 0]))


def coins_by(pairs, flips):
    """A pair (coins, ring), just one of them not None: the coins, or the places of a ring with odd flips."""
    paths = root_paths(pairs)
    sides = sides_of(paths, flips)
    at = wrong_place(pairs, sides, flips)
    if at is None:
        return fewer_points(sides), None
    return None, ring_at(pairs, paths, at)
