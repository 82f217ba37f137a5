"""Flows along lanes, or places into which too little leads."""

from treesapart.checks import refuse_amount, refuse_place, refuse_strengths, refuse_two_places
from treesapart.errors import NoMost
from treesapart.lanes import entering
from treesapart.streams import greatest_flow


def flow(lane_web, strengths, start, goal):
    """(amount, flow, places): a greatest flow from start to goal, and places that let no more come."""
    refuse_strengths(lane_web, strengths)
    refuse_two_places(lane_web, start, goal)
    return led_between(lane_web, strengths, start, goal)


def led_between(lane_web, strengths, start, goal):
    """What flow tells."""
    sent, reached = greatest_flow(lane_web[0], lane_web[1], strengths, start, goal)
    places = [place for place in range(lane_web[0]) if place not in reached]
    amount = sum([strengths[number] for number in entering(lane_web, places)])
    return (amount, sent, places)


def led_up_to(lane_web, strengths, root, goal, k):
    """The same of a greatest flow of no more than k; the places are of no use where it is k."""
    outside = lane_web[0]
    # All comes into the root from outside, by one lane that lets k through.
    longer = (outside + 1, lane_web[1] + ((outside, root),))
    amount, sent, places = led_between(longer, list(strengths) + [k], outside, goal)
    return (amount, sent[:-1], places)


def flows_or_places(lane_web, strengths, root, k):
    """("flows", one of amount k to each other place), or ("places", some into which less leads)."""
    refuse_strengths(lane_web, strengths)
    refuse_place(lane_web, root)
    refuse_amount(k)
    return led_out(lane_web, strengths, root, k)


def led_out(lane_web, strengths, root, k):
    """What flows_or_places tells."""
    flows = []
    for goal in others_than(lane_web, root):
        amount, sent, places = led_up_to(lane_web, strengths, root, goal, k)
        if amount < k:
            return ("places", places)
        flows.append(sent)
    return ("flows", flows)


def others_than(lane_web, root):
    """All places but the root."""
    return [place for place in range(lane_web[0]) if place != root]


def most_out(lane_web, strengths, root):
    """(k, flows, places): the greatest k that has flows to all places, and places into which just k leads."""
    refuse_strengths(lane_web, strengths)
    refuse_place(lane_web, root)
    if lane_web[0] == 1:
        raise NoMost("of one place there are flows for each number")
    told = [led_between(lane_web, strengths, root, goal) for goal in others_than(lane_web, root)]
    k, sent, places = min(told, key=lambda one: one[0])
    return (k, led_out(lane_web, strengths, root, k)[1], places)
