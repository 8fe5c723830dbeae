"""Ways by a pointing, what a point reaches, and shut lots."""

from pointways.clusters import found_along, ways_along
from pointways.errors import NoPoint
from pointways.pointings import arrows
from pointways.webs import is_point


def sure_of_point(web, thing):
    """Refuses what is no point of the web."""
    if not is_point(web, thing):
        raise NoPoint("that is no point of the web")


def way(web, pointing, a, b):
    """The numbers of fewest ties on a way from one point to another, None where none leads."""
    steps = arrows(web, pointing)
    sure_of_point(web, a)
    sure_of_point(web, b)
    return ways_along(a, steps).get(b)


def reached(web, pointing, point):
    """The points to which ways lead from one, in order, that one among them."""
    steps = arrows(web, pointing)
    sure_of_point(web, point)
    return found_along(web, point, steps)


def lot_without_way_in(web, steps):
    """A lot into which no step leads, None where there is none."""
    points = web.points()
    for point in points:
        found = found_along(web, point, steps)
        # No step leads out of what is found, so none leads into what is left.
        if len(found) < len(points):
            return [other for other in points if other not in found]
    return None


def shut_lot(web, pointing):
    """A lot into which no tie leads, None where all reach all."""
    return lot_without_way_in(web, arrows(web, pointing))
