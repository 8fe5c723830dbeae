"""Papers that show how far a farthest way is at least; and the pointing whose farthest way is shortest."""

from pointways.beforehand import free_ties, with_one_more
from pointways.clusters import steps_along, ways_along
from pointways.counts import all_pointed
from pointways.ears import sure_of_ears
from pointways.farthest import farthest
from pointways.webs import is_list, is_number, is_point, is_whole, sure_of_few_ties

MOST_TIES_TRIED = 10
MOST_FAR = 99


def is_far_apart(web, number, a, b, fixed):
    """Whether no row of fewer ties leads from a to b, fixed ones taken as they lead and free ones either way."""
    ways = ways_along(a, steps_along(web, fixed))
    return b not in ways or len(ways[b]) >= number


def is_far_paper(web, number, thing, fixed):
    """Whether a list is a paper of two points."""
    if len(thing) != 3 or not is_point(web, thing[1]) or not is_point(web, thing[2]):
        return False
    return is_far_apart(web, number, thing[1], thing[2], fixed)


def is_fork_paper(web, number, thing, fixed):
    """Whether a list is a paper of a free tie and two papers."""
    if len(thing) != 4 or not is_number(web, thing[1]) or thing[1] in fixed:
        return False
    # Each fork fixes a tie, so forks are never more than the ties deep.
    for lead in (0, 1):
        if not is_paper(web, number, thing[2 + lead], with_one_more(fixed, thing[1], lead)):
            return False
    return True


def is_paper(web, number, thing, fixed):
    """Whether it is a paper for the number, under what is fixed."""
    if not is_list(thing) or len(thing) == 0 or not isinstance(thing[0], str):
        return False
    if thing[0] == "far":
        return is_far_paper(web, number, thing, fixed)
    return thing[0] == "fork" and is_fork_paper(web, number, thing, fixed)


def reads_paper(web, number, thing):
    """Whether it is a paper for the number."""
    if not is_whole(number) or not 1 <= number <= MOST_FAR:
        return False
    return is_paper(web, number, thing, {})


def paper_for(web, number, fixed):
    """A paper for the number, where no pointing that keeps what is fixed has a farthest of less."""
    for a in web.points():
        for b in web.points():
            if is_far_apart(web, number, a, b, fixed):
                return ("far", a, b)
    # Where all ties are fixed two points are so far apart, so a free one is left here.
    tie = free_ties(web, fixed)[0]
    papers = [paper_for(web, number, with_one_more(fixed, tie, lead)) for lead in (0, 1)]
    return ("fork", tie, papers[0], papers[1])


def least_farthest(web):
    """The least farthest of all pointings, a pointing that has it, and a paper that none has less."""
    sure_of_few_ties(web, MOST_TIES_TRIED)
    sure_of_ears(web)
    if len(web.points()) == 1:
        return (0, [], None)
    rows = [(farthest(web, pointing)[0], pointing) for pointing in all_pointed(web)]
    number, best = min(rows, key=lambda row: row[0])
    return (number, best, paper_for(web, number, {}))
