"""Ways apart: as many as there can be, and a lot that shows that there are no more."""

from pointways.clusters import ways_along
from pointways.errors import NoPoint
from pointways.pointings import sure_of_pointing, turned, unlike_steps
from pointways.reaching import reached, sure_of_point, way


def sure_of_two_points(web, a, b):
    """Refuses what are no two unlike points of the web."""
    sure_of_point(web, a)
    sure_of_point(web, b)
    if a == b:
        raise NoPoint("ways that are apart lead from a point to another one")


def turned_till_none_leads(web, pointing, a, b):
    """The pointing, turned in ways from a to b, one behind another, until none leads."""
    left = list(pointing)
    numbers = way(web, left, a, b)
    while numbers is not None:
        left = turned(web, left, numbers)
        numbers = way(web, left, a, b)
    return left


def ways_taken(steps, a, b):
    """Ways from a to b, taken out of the steps one behind another."""
    left = steps
    told = []
    numbers = ways_along(a, left).get(b)
    while numbers is not None:
        told.append(numbers)
        left = [step for step in left if step[0] not in numbers]
        numbers = ways_along(a, left).get(b)
    return told


def ways_apart(web, pointing, a, b):
    """As many ways from a to b that are apart as there can be, and a lot around b with as many ties into it."""
    sure_of_pointing(web, pointing)
    sure_of_two_points(web, a, b)
    left = turned_till_none_leads(web, pointing, a, b)
    # Each turned way took one tie from those into the lot, until none was left. A way may turn back a tie of one
    # ahead; the ties that stay turned make up as many ways.
    found = reached(web, left, a)
    lot = [point for point in web.points() if point not in found]
    return (ways_taken(unlike_steps(web, pointing, left), a, b), lot)
