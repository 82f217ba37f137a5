"""Woods that hold all ties, or places that are too thick with ties for them."""

from treesapart.checks import refuse_count
from treesapart.exchange import put_tie, woods_by
from treesapart.layout import MOST_WOODS, every_number
from treesapart.rings import is_wood


def woods_or_thick(web, many):
    """So many woods that hold all ties, or places inside which there are too many."""
    refuse_count(many, 0, MOST_WOODS)
    return covered(web, many)


def covered(web, many):
    """What woods_or_thick tells."""
    homes = [None for tie in web[1]]
    for number in every_number(web):
        kind, told = put_tie(web, homes, many, number)
        if kind == "full":
            # Full places hold as many ties as they can, and this one lies inside them, too.
            return ("thick", told)
    return ("woods", woods_by(homes, many))


def fewest_woods(web):
    """(woods, places): as few woods as hold all ties, and thick places for one less, or None."""
    places = None
    many = 0
    kind, told = covered(web, many)
    while kind == "thick":
        places = told
        many += 1
        kind, told = covered(web, many)
    return (told, places)


def evened(web, woods):
    """As many woods of the same ties together, none with two ties more than another one."""
    even = [sorted(wood) for wood in woods]
    sizes = [len(wood) for wood in even]
    while max(sizes, default=0) - min(sizes, default=0) > 1:
        low, high = sizes.index(min(sizes)), sizes.index(max(sizes))
        number = tie_for(web, even[high], even[low])
        even[high].remove(number)
        even[low] = sorted(even[low] + [number])
        sizes = [len(wood) for wood in even]
    return even


def tie_for(web, giver, taker):
    """The first tie of a wood that makes no ring in another one of fewer ties."""
    # There is one: the fewer ties make more parts, so some tie goes between these.
    return [number for number in giver if is_wood(web, taker + [number])][0]
