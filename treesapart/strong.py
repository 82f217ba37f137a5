"""Trees by strengths: each tie may stand in as many of them as it is strong."""

from treesapart.checks import refuse_count, refuse_strengths
from treesapart.exchange import packed, woods_by
from treesapart.layout import MOST_TREES, every_number
from treesapart.sharing import shared


def strong_trees(web, strengths, k):
    """("trees", k trees), or ("parting", one between whose parts the strengths are too small)."""
    refuse_strengths(web, strengths)
    refuse_count(k, 1, MOST_TREES)
    told = shared(web, strengths, k)
    if told[0] == "parting":
        return told
    return ("trees", trees_of(web, told[1], k))


def trees_of(web, share, k):
    """k trees, each tie in just as many of them as a share for k has of it."""
    numbers = [number for number, many in enumerate(share) for turn in range(many)]
    # A tie stands here once for each tree that is to have it. No places hold too many for k woods,
    # so each finds room; and two of the same tie are a ring, so no tree has both.
    repeated = (web[0], tuple(web[1][number] for number in numbers))
    homes = packed(repeated, k, every_number(repeated))
    return [[numbers[at] for at in tree] for tree in woods_by(homes, k)]
