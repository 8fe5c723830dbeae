"""Ins met: a pointing with so many ties into each point; and the ins of all pointings by which all reach all."""

from pointways.clusters import ways_along
from pointways.errors import NoIns, NoNumbers
from pointways.ins import gaps, ins_of, is_over_by, weighed_lots
from pointways.pointings import arrows, turned
from pointways.webs import is_list, is_whole, sure_of_few_ties

MOST_TIES_LISTED = 12


def sure_of_ins(web, thing):
    """Refuses what is no list of whole numbers from 0 on, one for each point."""
    if not is_list(thing) or len(thing) != len(web.points()):
        raise NoNumbers("ins are a list with a number for each point")
    if not all([is_whole(one) and one >= 0 for one in thing]):
        raise NoNumbers("ins are whole numbers from 0 on")


def way_between(steps, starts, ends):
    """The numbers of ties on a way from one of the starts to one of the ends, None where none leads."""
    for start in starts:
        ways = ways_along(start, steps)
        for end in ends:
            if end in ways:
                return ways[end]
    return None


def leads_between(steps, starts, ends):
    """Whether a way leads from one of the starts to one of the ends."""
    return way_between(steps, starts, ends) is not None


def refuse_ins(web, steps, lacking, spare):
    """Refuses ins, where no way leads from a point that lacks ties to one that has some to spare."""
    points = web.points()
    if len(lacking) > 0:
        # No tie leads out of what they reach, so all that touch it lead to its points, and that isn't enough.
        raise NoIns("touching", [point for point in points if leads_between(steps, lacking, [point])])
    # No tie leads into what reaches these, so those within it alone lead to its points, and that is too many.
    raise NoIns("within", [point for point in points if leads_between(steps, [point], spare)])


def pointing_of(web, ins):
    """A pointing with these ins."""
    sure_of_ins(web, ins)
    pointing = [0] * web.many()
    lacking, spare = gaps(web, ins_of(web, pointing), ins)
    while len(lacking) > 0 or len(spare) > 0:
        steps = arrows(web, pointing)
        numbers = way_between(steps, lacking, spare)
        if numbers is None:
            refuse_ins(web, steps, lacking, spare)
        # Turned, a way has one tie more into its first point, one fewer into its last, as many into all others.
        pointing = turned(web, pointing, numbers)
        lacking, spare = gaps(web, ins_of(web, pointing), ins)
    return pointing


def with_one_in(row, place):
    """The ins with one more in a place."""
    return row[:place] + (row[place] + 1,) + row[place + 1:]


def ins_of_any(web):
    """The ins of all pointings, each once, as tuples."""
    points = web.points()
    rows = [(0,) * len(points)]
    for tie in web.ties():
        places = [points.index(end) for end in tie]
        # Keys of a dict, so that ins that several pointings have are kept once.
        more = {with_one_in(row, place): True for row in rows for place in places}
        rows = list(more)
    return rows


def all_ins(web):
    """The ins of all pointings by which all reach all, each once, sorted."""
    sure_of_few_ties(web, MOST_TIES_LISTED)
    weighed = weighed_lots(web)
    return sorted([list(row) for row in ins_of_any(web) if is_over_by(weighed, row, 1)])
