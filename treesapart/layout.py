"""Webs: places, and ties between them."""

from treesapart.errors import NoTie, NoWeb, TooMany

MOST_PLACES = 9
MOST_TIES = 30
MOST_LANES = 60
MOST_WOODS = 30
MOST_TREES = 12


def is_whole(thing):
    """Whether anything is a whole number."""
    # To Python True and False are ints, too.
    return isinstance(thing, int) and not isinstance(thing, bool)


def is_place(places, thing):
    """Whether anything is one of so many places."""
    return is_whole(thing) and 0 <= thing < places


def is_pair(places, thing):
    """Whether anything is a tuple of two unlike ones of so many places."""
    if not isinstance(thing, tuple) or len(thing) != 2:
        return False
    a, b = thing
    return is_place(places, a) and is_place(places, b) and a != b


def refuse_size(places):
    """Refuse what is no number of places."""
    if not is_whole(places) or not 1 <= places <= MOST_PLACES:
        raise NoWeb(f"places are a whole number from 1 to {MOST_PLACES}")


def refuse_layout(places, pairs, most):
    """Refuse what no web of at most so many ties can be made of."""
    refuse_size(places)
    if len(pairs) > most:
        raise TooMany(f"there are more than {most} in the list")
    for at, pair in enumerate(pairs):
        if not is_pair(places, pair):
            raise NoTie(at)


def every_number(web):
    """The numbers of all ties of a web."""
    return list(range(len(web[1])))


def made_web(places, ties):
    """The web of so many places with the ties of a list, in its order."""
    refuse_layout(places, ties, MOST_TIES)
    return (places, tuple((min(a, b), max(a, b)) for a, b in ties))
