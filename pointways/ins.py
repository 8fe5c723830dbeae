"""Ins: how many ties lead to each point, and into a lot."""

from pointways.lots import all_lots, lot_of, within
from pointways.pointings import arrows, steps_into


def ins_of(web, pointing):
    """How many ties lead to each point, in order."""
    goals = [goal for number, origin, goal in arrows(web, pointing)]
    return [goals.count(point) for point in web.points()]


def entering(web, pointing, lot):
    """How many ties lead into the lot."""
    steps = arrows(web, pointing)
    return len(steps_into(steps, lot_of(web, lot)))


def weighed_lots(web):
    """All lots, each as (places, many): the places of its points, and how many ties are within it."""
    points = web.points()
    return [([points.index(point) for point in lot], len(within(web, lot))) for lot in all_lots(web)]


def is_over_by(weighed, ins, k):
    """Whether k ties, or more, lead into each of the weighed lots, which the ins alone tell."""
    for places, many in weighed:
        if sum([ins[place] for place in places]) - many < k:
            return False
    return True


def gaps(web, ins, wanted):
    """The points of which the ins are fewer than are wanted, and those of which they are more."""
    rows = list(zip(web.points(), ins, wanted))
    lacking = [point for point, many, goal in rows if many < goal]
    spare = [point for point, many, goal in rows if many > goal]
    return (lacking, spare)
