"""Splits of the ties' strengths among their ends, or places that are too thick for them."""

from treesapart.checks import refuse_amount, refuse_strengths
from treesapart.streams import greatest_flow


def led(web, amounts, root, many):
    """Lead the amounts to the ties' ends, at most many to each place and none to the root.

    Told are (split, over, places): how much goes to each tie's first end; how much can't be led so
    at the least; and places inside which the amounts are together just so much more than these
    places may take. The places are of no use where nothing is over, the split where something is.
    """
    places, ties = web
    start, goal = places, places + 1
    # All is thought to lie at the first ends: flow along a tie is what goes to its second one.
    lying = [sum([amounts[number] for number, tie in enumerate(ties) if tie[0] == place])
             for place in range(places)]
    taken = [0 if place == root else many for place in range(places)]
    lanes = (list(ties) + [(start, place) for place in range(places)]
             + [(place, goal) for place in range(places)])
    sent, reached = greatest_flow(places + 2, lanes, amounts + lying + taken, start, goal)
    split = [amount - gone for amount, gone in zip(amounts, sent)]
    over = sum(amounts) - sum(sent[len(lanes) - places:])
    return (split, over, [node for node in reached if node < places])


def led_for_all(web, amounts, many):
    """("splits", one for each place), or ("thick", places)."""
    splits = []
    for root in range(web[0]):
        split, over, places = led(web, amounts, root, many)
        if over > 0:
            return ("thick", places)
        splits.append(split)
    return ("splits", splits)


def splits_or_thick(web, strengths, many):
    """Splits that lead at most many to each place, or places inside which the strengths are too great."""
    refuse_strengths(web, strengths)
    refuse_amount(many)
    return led_for_all(web, list(strengths), many)


def fewest_for(web, strengths):
    """(many, splits, places): the least many that has splits, and thick places for one less, or None."""
    refuse_strengths(web, strengths)
    amounts = list(strengths)
    many, places = 0, None
    kind, told = led_for_all(web, amounts, many)
    while kind == "thick":
        # No fewer will do than these places want, so none is left out by going there at once.
        places = told
        many = least_for(web, amounts, places)
        kind, told = led_for_all(web, amounts, many)
    return (many, told, places)


def least_for(web, amounts, places):
    """The least many for which some places, two at least, are not too thick."""
    within = sum([amount for amount, (a, b) in zip(amounts, web[1]) if a in places and b in places])
    return -(-within // (len(places) - 1))
