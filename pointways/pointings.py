"""Pointings: which way each tie leads; turned, written and read."""

from pointways.clusters import steps_along
from pointways.errors import NoNumbers, NoPointing, NoText
from pointways.webs import are_numbers, is_list, is_whole


def is_lead(thing):
    """Whether it says which way a tie leads."""
    return is_whole(thing) and 0 <= thing <= 1


def is_pointing(web, thing):
    """Whether it is a pointing of the web."""
    if not is_list(thing) or len(thing) != web.many():
        return False
    return all([is_lead(one) for one in thing])


def sure_of_pointing(web, thing):
    """Refuses what is no pointing of the web."""
    if not is_pointing(web, thing):
        raise NoPointing("a pointing is a list with 0 or 1 for each tie")


def arrows(web, pointing):
    """The steps (number, from, to) along the ties as they lead."""
    sure_of_pointing(web, pointing)
    return steps_along(web, dict(enumerate(pointing)))


def unlike_steps(web, one, other):
    """The steps of the one pointing along the ties that lead otherwise by the other."""
    return [step for step in arrows(web, one) if one[step[0]] != other[step[0]]]


def steps_into(steps, lot):
    """The steps that lead into the lot."""
    return [step for step in steps if step[1] not in lot and step[2] in lot]


def turned(web, pointing, numbers):
    """The pointing with the ties of these numbers the other way about."""
    sure_of_pointing(web, pointing)
    if not are_numbers(web, numbers):
        raise NoNumbers("ties are turned by a list of their numbers, each once")
    return [1 - lead if number in numbers else lead for number, lead in enumerate(pointing)]


def pointing_text(web, pointing):
    """The pointing, written."""
    return " ".join([f"{origin}>{goal}" for number, origin, goal in arrows(web, pointing)])


def read_lead(tie, word):
    """Which way the tie leads by its word."""
    first, second = tie
    if word == f"{first}>{second}":
        return 0
    if word == f"{second}>{first}":
        return 1
    raise NoText("a word tells another tie, or none")


def read_pointing(web, text):
    """The pointing that is so written."""
    if not isinstance(text, str):
        raise NoText("a pointing is read from a text")
    words = [] if text == "" else text.split(" ")
    if len(words) != web.many():
        raise NoText("the text has a word for each tie")
    return [read_lead(tie, word) for tie, word in zip(web.ties(), words)]
