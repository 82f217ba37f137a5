"""Shares of the ties' strengths for k, or a parting that has too little strength for them."""

from treesapart.checks import refuse_amount, refuse_strengths
from treesapart.errors import NoMost
from treesapart.layout import every_number
from treesapart.parts import between, joined
from treesapart.splits import led, led_for_all


def share_or_parting(web, strengths, k):
    """("share", share, splits), or ("parting", one between whose parts the strengths are too small)."""
    refuse_strengths(web, strengths)
    refuse_amount(k)
    return shared(web, strengths, k)


def most_share(web, strengths):
    """(k, share, splits, parting): the greatest k that has a share, and a parting for k + 1."""
    refuse_strengths(web, strengths)
    if web[0] == 1:
        raise NoMost("of one place there is a share for each number")
    parting = [[place] for place in range(web[0])]
    k = most_by(web, strengths, parting)
    told = shared(web, strengths, k)
    while told[0] == "parting":
        # No more than this parting lets through can be shared, so none is left out by going there at once.
        parting = told[1]
        k = most_by(web, strengths, parting)
        told = shared(web, strengths, k)
    return (k, told[1], told[2], parting)


def shared(web, strengths, k):
    """What share_or_parting tells."""
    share, stops = grown_share(web, strengths, k, every_number(web))
    if sum(share) == k * (web[0] - 1):
        return ("share", share, led_for_all(web, share, k)[1])
    return ("parting", parting_by(web, stops))


def grown_share(web, strengths, k, numbers):
    """(share, stops): the ties of these numbers, one behind another, given as much as all places allow.

    Places allow k for each of them but one to lie inside. Stops has, by the number of each tie that
    did not get its strength, places around it that have all they may.
    """
    share = [0 for strength in strengths]
    stops = {}
    for number in numbers:
        share[number] = strengths[number]
        # Only places with both ends can have too much now: no need to look from any other root.
        split, over, places = led(web, share, web[1][number][0], k)
        if over > 0:
            share[number] -= over
            stops[number] = places
    return (share, stops)


def parting_by(web, stops):
    """The parting between whose parts each tie that was grown has its strength."""
    # A tie that has less lies inside places that have all they may; such places that share a place
    # have all they may together. So a part has all it may, and what goes between is used up.
    return joined(web[0], [stops[number] for number in stops])


def most_by(web, strengths, parting):
    """The greatest k for which a parting of two parts or more has strength enough."""
    return sum([strengths[number] for number in between(web, parting)]) // (len(parting) - 1)
