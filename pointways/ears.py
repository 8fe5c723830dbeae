"""Ear rows: ears that, taken one behind another, give the web."""

from pointways.clusters import bars, clusters, steps_along, ways_along
from pointways.errors import Barred, Parted
from pointways.webs import are_numbers, is_list, is_name


def sure_of_ears(web):
    """Refuses a web that has no ear row."""
    parts = clusters(web)
    if len(parts) > 1:
        raise Parted(parts[0])
    barring = bars(web)
    if len(barring) > 0:
        number, lot = barring[0]
        raise Barred(number, lot)


def points_along(web, start, numbers):
    """The points that are come to from the start along the ties, as far as each goes on from the one ahead."""
    ties = web.ties()
    points = []
    here = start
    for number in numbers:
        first, second = ties[number]
        if here != first and here != second:
            return points
        here = second if here == first else first
        points.append(here)
    return points


def way_back(web, met, point, number):
    """Numbers of ties from the point on to the first one that is met, without that tie; none where it is met itself."""
    # No step leads on from a met point, so a way ends where it comes to the first one.
    steps = [step for step in steps_along(web, {}) if step[0] != number and step[1] not in met]
    ways = ways_along(point, steps)
    ends = [end for end in met if end in ways]
    return ways[ends[0]]


def next_ear(web, met, left):
    """An ear that begins with a tie that is left and has an end that is met."""
    ties = web.ties()
    # The web is joined, so while ties are left one of them has such an end.
    ready = [number for number in left if ties[number][0] in met or ties[number][1] in met]
    first, second = ties[ready[0]]
    start, goal = (first, second) if first in met else (second, first)
    return (start, [ready[0]] + way_back(web, met, goal, ready[0]))


def ears(web):
    """An ear row of the web."""
    sure_of_ears(web)
    met = web.points()[:1]
    left = list(range(web.many()))
    row = []
    while len(left) > 0:
        start, numbers = next_ear(web, met, left)
        row.append((start, numbers))
        met = met + points_along(web, start, numbers)[:-1]
        left = [number for number in left if number not in numbers]
    return row


def is_ear(web, thing, met, gone):
    """Whether it is an ear where these points are met and these ties are in ears ahead."""
    if not is_list(thing) or len(thing) != 2:
        return False
    start, numbers = thing
    if not is_name(start) or start not in met:
        return False
    if not are_numbers(web, numbers) or len(numbers) == 0 or any([number in gone for number in numbers]):
        return False
    points = points_along(web, start, numbers)
    if len(points) < len(numbers) or points[-1] not in met:
        return False
    between = points[:-1]
    return len(set(between)) == len(between) and not any([point in met for point in between])


def reads_ears(web, thing):
    """Whether it is an ear row of the web."""
    if not is_list(thing):
        return False
    met = web.points()[:1]
    gone = []
    for ear in thing:
        if not is_ear(web, ear, met, gone):
            return False
        start, numbers = ear
        met = met + points_along(web, start, numbers)[:-1]
        gone = gone + list(numbers)
    return len(met) == len(web.points()) and len(gone) == web.many()
