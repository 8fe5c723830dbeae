"""Lots: some of a web's points, not none and not all, and the ties that cross them or are within."""

from pointways.errors import NoLot
from pointways.webs import is_list, is_name


def lot_of(web, points):
    """The lot of these points, in order."""
    if not is_list(points) or not all([is_name(point) for point in points]):
        raise NoLot("a lot is a list of points")
    lot = [point for point in web.points() if point in points]
    # A point told twice, or a name that is no point, makes the list longer than the lot.
    if len(lot) != len(points):
        raise NoLot("a lot tells points of the web, each once")
    if len(lot) == 0 or len(lot) == len(web.points()):
        raise NoLot("a lot is not none and not all of the points")
    return lot


def all_parts(points):
    """All parts of the points, each in order, and behind all parts of its own: first none of them, last all."""
    parts = [[]]
    for point in points:
        parts = parts + [part + [point] for part in parts]
    return parts


def all_lots(web):
    """All lots of the web, each in order."""
    return all_parts(web.points())[1:-1]


def ties_inside(web, part):
    """The numbers of the ties that have both ends in the part, rising."""
    return [number for number, (first, second) in enumerate(web.ties()) if first in part and second in part]


def crossing(web, lot):
    """The numbers of the ties that have just one end in the lot, rising."""
    inside = lot_of(web, lot)
    ties = web.ties()
    return [number for number, (first, second) in enumerate(ties) if (first in inside) != (second in inside)]


def within(web, lot):
    """The numbers of the ties that have both ends in the lot, rising."""
    return ties_inside(web, lot_of(web, lot))
