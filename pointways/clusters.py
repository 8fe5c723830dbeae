"""Clusters: points that hang together; and the ties that bar."""


def steps_along(web, fixed):
    """The steps (number, from, to) along the ties: one for a tie that fixed has at 0 or 1, two for any other."""
    steps = []
    for number, (first, second) in enumerate(web.ties()):
        if fixed.get(number, 0) == 0:
            steps.append((number, first, second))
        if fixed.get(number, 1) == 1:
            steps.append((number, second, first))
    return steps


def ways_along(start, steps):
    """A dict from each point to which steps lead from the start to the numbers of fewest ties on the way."""
    ways = {start: []}
    row = [start]
    at = 0
    # Points come into the row behind all nearer ones, so the first way to a point is a shortest one.
    while at < len(row):
        here = row[at]
        for number, origin, goal in steps:
            if origin == here and goal not in ways:
                ways[goal] = ways[here] + [number]
                row.append(goal)
        at += 1
    return ways


def found_along(web, start, steps):
    """All points to which steps lead from the start, in order, the start among them."""
    ways = ways_along(start, steps)
    return [point for point in web.points() if point in ways]


def clusters(web):
    """The clusters, by their first points."""
    steps = steps_along(web, {})
    told = []
    for point in web.points():
        if not any([point in cluster for cluster in told]):
            told.append(found_along(web, point, steps))
    return told


def bars(web):
    """The ties that bar, rising, each as (number, lot), the lot being on the side of its second end."""
    steps = steps_along(web, {})
    told = []
    for number, (first, second) in enumerate(web.ties()):
        lot = found_along(web, second, [step for step in steps if step[0] != number])
        if first not in lot:
            told.append((number, lot))
    return told
