"""How far one point is from another by a pointing, and how far any is from any."""

from pointways.clusters import ways_along
from pointways.pointings import arrows
from pointways.reaching import way


def far(web, pointing, a, b):
    """How many ties a way of fewest ties has, None where none leads."""
    numbers = way(web, pointing, a, b)
    return None if numbers is None else len(numbers)


def farthest(web, pointing):
    """How far it is from one point to another at most, and these two; None where not all reach all."""
    steps = arrows(web, pointing)
    points = web.points()
    told = (0, points[0], points[0])
    for a in points:
        ways = ways_along(a, steps)
        if len(ways) < len(points):
            return None
        for b in points:
            if len(ways[b]) > told[0]:
                told = (len(ways[b]), a, b)
    return told
