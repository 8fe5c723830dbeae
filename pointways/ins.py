"""Ins: how many ties lead to each point, and into a lot."""

from pointways.lots import lot_of
from pointways.pointings import arrows, steps_into


def ins_of(web, pointing):
    """How many ties lead to each point, in order."""
    goals = [goal for number, origin, goal in arrows(web, pointing)]
    return [goals.count(point) for point in web.points()]


def entering(web, pointing, lot):
    """How many ties lead into the lot."""
    steps = arrows(web, pointing)
    return len(steps_into(steps, lot_of(web, lot)))
