"""Pointings by which all reach all."""

from pointways.ears import ears, points_along, reads_ears
from pointways.errors import NoEars


def by_ears(web, row):
    """The pointing by which each tie leads as its ear goes along it."""
    if not reads_ears(web, row):
        raise NoEars("that is no ear row of the web")
    ties = web.ties()
    leads = {}
    for start, numbers in row:
        for number, goal in zip(numbers, points_along(web, start, numbers)):
            leads[number] = 0 if goal == ties[number][1] else 1
    return [leads[number] for number in range(web.many())]


def pointed(web):
    """A pointing by which all reach all."""
    return by_ears(web, ears(web))
