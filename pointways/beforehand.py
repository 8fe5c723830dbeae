"""Pointings by which all reach all, where some ties are pointed beforehand; and what is forced by that."""

from pointways.clusters import bars, steps_along
from pointways.errors import Barred, NoFixed, Shut
from pointways.pointings import is_lead
from pointways.reaching import lot_without_way_in
from pointways.webs import is_number


def sure_of_fixed(web, thing):
    """Refuses what doesn't fix ties of the web."""
    if not isinstance(thing, dict):
        raise NoFixed("what is fixed is a dict")
    for number, lead in thing.items():
        if not is_number(web, number) or not is_lead(lead):
            raise NoFixed("what is fixed is a dict from numbers of ties to 0 or 1")


def with_one_more(fixed, number, lead):
    """What is fixed, and one more tie."""
    more = dict(fixed)
    more[number] = lead
    return more


def lot_shut_by(web, fixed):
    """A lot of which each tie that crosses it is fixed and leads out of it, None where there is none."""
    return lot_without_way_in(web, steps_along(web, fixed))


def sure_of_a_pointing(web, fixed):
    """Refuses what is kept by no pointing by which all reach all."""
    lot = lot_shut_by(web, fixed)
    if lot is not None:
        raise Shut(lot)
    # A fixed tie that bars would shut a lot, so those that are left are free.
    barring = bars(web)
    if len(barring) > 0:
        number, side = barring[0]
        raise Barred(number, side)


def free_ties(web, fixed):
    """The numbers of the ties that are not fixed, rising."""
    return [number for number in range(web.many()) if number not in fixed]


def pointed_with(web, fixed):
    """A pointing that keeps what is fixed and by which all reach all."""
    sure_of_fixed(web, fixed)
    sure_of_a_pointing(web, fixed)
    kept = dict(fixed)
    for number in free_ties(web, fixed):
        # No lot is shut so far and no tie bars, so if a tie can't lead the one way it can lead the other.
        kept[number] = 0 if lot_shut_by(web, with_one_more(kept, number, 0)) is None else 1
    return [kept[number] for number in range(web.many())]


def forced(web, fixed):
    """The free ties that can lead one way alone, each with that way and a lot that shows it."""
    sure_of_fixed(web, fixed)
    sure_of_a_pointing(web, fixed)
    told = {}
    for number in free_ties(web, fixed):
        for lead in (0, 1):
            # The lot that is shut by the other way is the one into which the tie has to lead.
            lot = lot_shut_by(web, with_one_more(fixed, number, 1 - lead))
            if lot is not None:
                told[number] = (lead, lot)
    return told
