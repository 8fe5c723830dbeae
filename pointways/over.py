"""K times over: pointings by which k ties, or more, lead into each lot."""

from pointways.errors import NoNumber, Thin
from pointways.ins import is_over_by, weighed_lots
from pointways.lots import all_lots, crossing
from pointways.meeting import pointing_of
from pointways.pointings import arrows, steps_into
from pointways.webs import is_whole

MOST_TIMES = 9


def sure_of_times(thing, least):
    """Refuses what is no number of times, from the least on."""
    if not is_whole(thing) or not least <= thing <= MOST_TIMES:
        raise NoNumber(f"so many times over is a whole number from {least} to {MOST_TIMES}")


def sure_of_thick_lots(web, k):
    """Refuses a web with a lot that fewer than 2 k ties cross."""
    for lot in all_lots(web):
        if len(crossing(web, lot)) < 2 * k:
            raise Thin(lot)


def times_over(web, pointing):
    """How many ties lead into each lot at least, and a lot into which just so many lead; None of one point."""
    steps = arrows(web, pointing)
    counted = [(len(steps_into(steps, lot)), lot) for lot in all_lots(web)]
    return min(counted, key=lambda row: row[0], default=None)


def halves(many):
    """Half of a number, of an odd one half of one fewer and half of one more."""
    return [many // 2] if many % 2 == 0 else [many // 2, many // 2 + 1]


def halved_ins(web):
    """All ins with half of each point's ties, of an odd number half of one more or of one fewer."""
    ends = [end for tie in web.ties() for end in tie]
    rows = [[]]
    for point in web.points():
        rows = [row + [half] for row in rows for half in halves(ends.count(point))]
    return [row for row in rows if sum(row) == web.many()]


def pointed_over(web, k):
    """A pointing k times over."""
    sure_of_times(k, 0)
    sure_of_thick_lots(web, k)
    weighed = weighed_lots(web)
    # Where 2 k ties or more cross each lot some of the halved ins are k times over.
    good = [row for row in halved_ins(web) if is_over_by(weighed, row, k)]
    return pointing_of(web, good[0])
