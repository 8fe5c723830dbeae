"""Between: from one pointing to another, both k times over, by turned ways and rings."""

from pointways.errors import NotOver
from pointways.ins import gaps, ins_of, is_over_by, weighed_lots
from pointways.over import sure_of_times
from pointways.pointings import sure_of_pointing, turned
from pointways.reaching import way
from pointways.rings import rings_between


def with_one_moved(web, ins, start, end):
    """The ins that are there once a way from the start to the end is turned."""
    points = web.points()
    told = list(ins)
    told[points.index(start)] += 1
    told[points.index(end)] -= 1
    return told


def ends_to_turn(web, ins, goal, weighed, k):
    """The start and the end of a way to turn: that brings the ins nearer to the goal, and is still k times over."""
    lacking, spare = gaps(web, ins, goal)
    pairs = [(start, end) for start in lacking for end in spare]
    # Both ins are k times over, so for each start some end does.
    good = [pair for pair in pairs if is_over_by(weighed, with_one_moved(web, ins, pair[0], pair[1]), k)]
    return good[0]


def steps_between(web, one, other, k):
    """Ways and rings, turned one after another from the one pointing to the other, k times over all along."""
    sure_of_pointing(web, one)
    sure_of_pointing(web, other)
    sure_of_times(k, 1)
    weighed = weighed_lots(web)
    goal = ins_of(web, other)
    if not is_over_by(weighed, ins_of(web, one), k) or not is_over_by(weighed, goal, k):
        raise NotOver("one of the pointings is not so many times over")
    here = list(one)
    steps = []
    while ins_of(web, here) != goal:
        start, end = ends_to_turn(web, ins_of(web, here), goal, weighed, k)
        # More than k ties lead into each lot that has the end and not the start, so a way leads there.
        numbers = way(web, here, start, end)
        steps.append(("way", numbers))
        here = turned(web, here, numbers)
    return steps + [("ring", ring) for ring in rings_between(web, here, other)]
