"""Parts that ties make, partings, and the ties between parts or inside places."""

from treesapart.layout import is_place


def parts_by(web, numbers):
    """The parts that the ties of these numbers make: a sorted list of rising lists."""
    places, ties = web
    # Each place bears the least place of its part, so that the parts come out sorted.
    least = list(range(places))
    for number in numbers:
        a, b = ties[number]
        low, high = min(least[a], least[b]), max(least[a], least[b])
        least = [low if mark == high else mark for mark in least]
    return [[place for place in range(places) if least[place] == mark]
            for mark in range(places) if least[mark] == mark]


def joined(places, groups):
    """The parting of so many places in which each group of places stands in one part."""
    pairs = tuple((group[0], place) for group in groups for place in group[1:])
    return parts_by((places, pairs), list(range(len(pairs))))


def is_listed(thing):
    """Whether anything is a list, or a tuple in its stead."""
    return isinstance(thing, (list, tuple))


def is_part(places, thing):
    """Whether anything is a rising list of some of so many places, one at least."""
    if not is_listed(thing) or len(thing) == 0:
        return False
    if not all(is_place(places, place) for place in thing):
        return False
    return all(a < b for a, b in zip(thing, thing[1:]))


def is_parting(web, thing):
    """Whether anything is a parting of the web's places."""
    places = web[0]
    if not is_listed(thing) or not all(is_part(places, part) for part in thing):
        return False
    # Parts without a common place are sorted where their first places rise; this
    # compares no list with a tuple, which Python refuses.
    firsts = [part[0] for part in thing]
    stood = [place for part in thing for place in part]
    return firsts == sorted(firsts) and sorted(stood) == list(range(places))


def between(web, parting):
    """The numbers of the ties whose ends stand in unlike parts of the parting."""
    part_of = {place: at for at, part in enumerate(parting) for place in part}
    return [number for number, (a, b) in enumerate(web[1]) if part_of[a] != part_of[b]]


def inside(web, places):
    """The numbers of the ties that have both ends among some places."""
    return [number for number, (a, b) in enumerate(web[1]) if a in places and b in places]
