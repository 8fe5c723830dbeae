"""Fewest ties to turn so that all reach all, and as many lots that show it."""

from pointways.ears import sure_of_ears
from pointways.lots import all_lots, crossing
from pointways.pointings import arrows, steps_into, sure_of_pointing
from pointways.webs import sure_of_few_ties

MOST_TIES_TAKEN = 12


def shut_cuts(web, pointing):
    """The lots that are shut, each as (numbers, lot) with the ties that cross it, those of fewest ties first."""
    steps = arrows(web, pointing)
    shut = [lot for lot in all_lots(web) if len(steps_into(steps, lot)) == 0]
    return sorted([(crossing(web, lot), lot) for lot in shut], key=lambda cut: len(cut[0]))


def without_tie(cuts, number):
    """The cuts in which a tie isn't."""
    return [cut for cut in cuts if number not in cut[0]]


def ties_in_each(cuts, most):
    """The numbers of at most so many ties, of which one or more are in each cut; None where none are such."""
    if len(cuts) == 0:
        return []
    if most == 0:
        return None
    for number in cuts[0][0]:
        rest = ties_in_each(without_tie(cuts, number), most - 1)
        if rest is not None:
            return [number] + rest
    return None


def lots_apart(cuts, numbers):
    """For each tie told a lot that it crosses, of which no tie crosses two; None where none are such."""
    if len(numbers) == 0:
        return []
    for crossed, lot in cuts:
        if numbers[0] in crossed:
            others = [cut for cut in cuts if not any([number in crossed for number in cut[0]])]
            rest = lots_apart(others, numbers[1:])
            if rest is not None:
                return [lot] + rest
    return None


def fewest(web, pointing):
    """Fewest ties, turned in which all reach all, and as many shut lots of which no tie crosses two."""
    sure_of_pointing(web, pointing)
    sure_of_few_ties(web, MOST_TIES_TAKEN)
    sure_of_ears(web)
    cuts = shut_cuts(web, pointing)
    # Where no tie bars, fewest ties that are in all cuts do when they are turned, and as many lots are apart.
    most = 0
    numbers = ties_in_each(cuts, most)
    while numbers is None:
        most += 1
        numbers = ties_in_each(cuts, most)
    return (sorted(numbers), lots_apart(cuts, numbers))
