"""Rings: from one pointing to another with the same ins."""

from pointways.clusters import ways_along
from pointways.errors import Unlike
from pointways.ins import ins_of
from pointways.pointings import unlike_steps


def rings_between(web, one, other):
    """Rings, turned in which one after another the one pointing becomes the other; no tie is in two of them."""
    if ins_of(web, one) != ins_of(web, other):
        raise Unlike("the two pointings have other ins")
    left = unlike_steps(web, one, other)
    rings = []
    while len(left) > 0:
        number, origin, goal = left[0]
        # Of the ties that are left as many lead to each point as from it, so a way leads back.
        ring = [number] + ways_along(goal, left)[origin]
        rings.append(ring)
        left = [step for step in left if step[0] not in ring]
    return rings
