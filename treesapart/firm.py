"""The firm parts of a web, and whether each choice of trees uses a tie."""

from treesapart.checks import refuse_count, refuse_number
from treesapart.errors import NoTrees
from treesapart.exchange import full_parting, packed, woods_by
from treesapart.layout import MOST_WOODS, every_number
from treesapart.packing import packed_or_parting
from treesapart.parts import inside


def firm_parts(web, k):
    """The firm parts for k, each as a tuple of the part and its k trees."""
    refuse_count(k, 1, MOST_WOODS)
    homes = packed(web, k, every_number(web))
    woods = woods_by(homes, k)
    # Full places are firm by the ties that hold them; more of several of them are not firm,
    # since too few ties go between.
    return [(part, trees_inside(web, woods, part)) for part in full_parting(web, homes, k)]


def trees_inside(web, woods, part):
    """What each wood holds inside a part."""
    within = inside(web, part)
    return [[number for number in wood if number in within] for wood in woods]


def used(web, k, number):
    """("tight", a parting that lets no k trees go without a tie), or ("without", k trees without it)."""
    refuse_count(k, 1, MOST_WOODS)
    refuse_number(web, number)
    numbers = every_number(web)
    kind, told = packed_or_parting(web, k, numbers)
    if kind == "parting":
        raise NoTrees(told)
    kind, told = packed_or_parting(web, k, [other for other in numbers if other != number])
    # Without the tie one too few go between the parts, so with it there are just enough.
    return ("without", told) if kind == "trees" else ("tight", told)
