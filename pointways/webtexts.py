"""Webs as texts: written, and read back."""

from pointways.errors import NoText, NoWeb
from pointways.webs import Web


def web_text(web):
    """The web, written."""
    points = " ".join(web.points())
    if web.many() == 0:
        return points
    ties = " ".join([f"{first}-{second}" for first, second in web.ties()])
    return f"{points}; {ties}"


def pairs_in(text):
    """The pieces of a text of ties, each split at its signs; whether they are ties is left to the web."""
    if text == "":
        return []
    return [piece.split("-") for piece in text.split(" ")]


def read_web(text):
    """The web that is so written."""
    if not isinstance(text, str):
        raise NoText("a web is read from a text")
    points, mark, ties = text.partition("; ")
    try:
        web = Web(points.split(" "), pairs_in(ties))
    except NoWeb:
        raise NoText("the text tells no web") from None
    # A mark without ties behind it makes a web, too, but one that is written otherwise.
    if web_text(web) != text:
        raise NoText("the web is written otherwise")
    return web
