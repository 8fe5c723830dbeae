"""Counts: how many pointings there are by which all reach all, and which."""

from pointways.beforehand import lot_shut_by
from pointways.clusters import clusters
from pointways.lots import all_parts, ties_inside
from pointways.webs import sure_of_few_ties

MOST_TIES_LISTED = 12


def how_many_at_all(ties):
    """How many pointings the ties have, whether all reach all or not."""
    count = 1
    for tie in ties:
        count = count * 2
    return count


def without(points, part):
    """The points that are not in the part."""
    return tuple([point for point in points if point not in part])


def how_many(web):
    """How many pointings there are by which all reach all."""
    if len(clusters(web)) > 1:
        return 0
    # Points that reach one another make groups, and into some of the groups no tie leads. Over all unions of one or
    # more of these, taken plus for an odd number of groups and minus for an even one, a pointing comes to 1. All ties
    # between such a union and the rest lead out of it, and those of the rest as they like. What hangs together is
    # such a union as one group alone, so its own count is what the smaller unions leave of all its pointings.
    at_all = {tuple(part): how_many_at_all(ties_inside(web, part)) for part in all_parts(web.points())}
    own = {}
    for part in all_parts(web.points())[1:]:
        unions = [tuple(inner) for inner in all_parts(part)[1:-1]]
        own[tuple(part)] = at_all[tuple(part)] - sum([own[union] * at_all[without(part, union)] for union in unions])
    return own[tuple(web.points())]


def all_pointed(web):
    """All pointings by which all reach all, sorted."""
    sure_of_few_ties(web, MOST_TIES_LISTED)
    rows = [[]] if lot_shut_by(web, {}) is None else []
    for tie in web.ties():
        longer = [row + [lead] for row in rows for lead in (0, 1)]
        # A lot that the first ties shut stays shut, however the others lead.
        rows = [row for row in longer if lot_shut_by(web, dict(enumerate(row))) is None]
    return rows
