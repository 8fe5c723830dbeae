"""Webs: points, and ties between them that have no direction."""

from pointways.errors import NoNumbers, NoWeb, TooMuch

LETTERS = "abcdefghijklmnopqrstuvwxyz"
MOST_LETTERS = 4
MOST_POINTS = 9
MOST_TIES = 20


def is_list(thing):
    """Whether it counts as a list, where one is handed in."""
    return isinstance(thing, (list, tuple))


def is_whole(thing):
    """Whether it is a whole number."""
    # Python counts True and False among its ints, the document does not.
    return isinstance(thing, int) and not isinstance(thing, bool)


def is_name(thing):
    """Whether it is a text that may name a point."""
    if not isinstance(thing, str) or not 1 <= len(thing) <= MOST_LETTERS:
        return False
    return all([sign in LETTERS for sign in thing])


def are_points(thing):
    """Whether it is a list of points that a web may have."""
    if not is_list(thing) or not 1 <= len(thing) <= MOST_POINTS:
        return False
    return all([is_name(one) for one in thing]) and len(set(thing)) == len(thing)


def is_tie(thing, points):
    """Whether it is a pair of two unlike ones of the points."""
    if not is_list(thing) or len(thing) != 2:
        return False
    # Names are asked for first: only of them is it sure how they compare with a point.
    if not all([is_name(end) and end in points for end in thing]):
        return False
    return thing[0] != thing[1]


def are_ties(thing, points):
    """Whether it is a list of ties that a web of these points may have."""
    if not is_list(thing) or len(thing) > MOST_TIES:
        return False
    return all([is_tie(one, points) for one in thing])


class Web:
    """Points, and ties between them; none of it changes once it is made."""

    def __init__(self, points, ties):
        if not are_points(points):
            raise NoWeb("points are a list of one to nine unlike names")
        if not are_ties(ties, points):
            raise NoWeb("ties are a list of at most twenty pairs of two unlike points")
        # Tuples of texts, so that no list is shared with whoever hands in or asks.
        self.names = tuple(points)
        self.pairs = tuple([(pair[0], pair[1]) for pair in ties])

    def points(self):
        """The points, in order."""
        return list(self.names)

    def ties(self):
        """The ties, each as a tuple of its first and its second end."""
        return list(self.pairs)

    def many(self):
        """How many ties there are."""
        return len(self.pairs)


def sure_of_few_ties(web, most):
    """Refuses a web of more ties than so many."""
    if web.many() > most:
        raise TooMuch(f"the web has more than {most} ties")


def is_point(web, thing):
    """Whether it is a point of the web."""
    return is_name(thing) and thing in web.points()


def is_number(web, thing):
    """Whether it is the number of a tie."""
    return is_whole(thing) and 0 <= thing < web.many()


def are_numbers(web, thing):
    """Whether it is a list of numbers of ties, each once."""
    if not is_list(thing) or not all([is_number(web, one) for one in thing]):
        return False
    return len(set(thing)) == len(thing)


def renamed(web, names):
    """The web with other names in the places of its points."""
    points = web.points()
    if not isinstance(names, dict) or len(names) != len(points):
        raise NoWeb("names are a dict with as many keys as there are points")
    if not all([is_name(key) and key in points for key in names]):
        raise NoWeb("names are a dict from points, and nothing else")
    ties = [(names[first], names[second]) for first, second in web.ties()]
    return Web([names[point] for point in points], ties)


def reordered(web, order):
    """The web with its ties in the order in which their numbers are told."""
    if not are_numbers(web, order) or len(order) != web.many():
        raise NoNumbers("an order is a list of the numbers of all ties, each once")
    ties = web.ties()
    return Web(web.points(), [ties[number] for number in order])
