"""How often every choice of trees uses a tie at least, by strengths."""

from treesapart.checks import refuse_amount, refuse_number, refuse_strengths
from treesapart.errors import NoTrees
from treesapart.layout import every_number
from treesapart.sharing import grown_share, parting_by
from treesapart.splits import led_for_all


def least_use(web, strengths, k, number):
    """(least, share, splits, parting): the least that a share for k has of a tie, and what lets none have less."""
    refuse_strengths(web, strengths)
    refuse_amount(k)
    refuse_number(web, number)
    others = [other for other in every_number(web) if other != number]
    # Behind all others the tie gets just what they can't have among them.
    share, stops = grown_share(web, strengths, k, others + [number])
    if sum(share) < k * (web[0] - 1):
        raise NoTrees(parting_by(web, stops))
    splits = led_for_all(web, share, k)[1]
    return (share[number], share, splits, needing(web, share, stops, number))


def needing(web, share, stops, number):
    """The parting between whose parts all other ties are used up, or None where the tie isn't needed."""
    if share[number] == 0:
        return None
    # What stopped the tie itself lies around it, while it must go between.
    return parting_by(web, {other: stops[other] for other in stops if other != number})
