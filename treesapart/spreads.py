"""Spreads: lanes that lead from a root to each other place by just one way."""

from treesapart.checks import refuse_count, refuse_number, refuse_place, refuse_strengths
from treesapart.errors import NoSpreads
from treesapart.flows import led_out, led_up_to, others_than
from treesapart.layout import MOST_TREES
from treesapart.rings import is_wood


def is_spread(lane_web, root, numbers):
    """Whether these lanes are a spread out of the root."""
    ends = sorted([lane_web[1][number][1] for number in numbers])
    # Where just one lane leads to each other place, going back along them ends at the root or in a ring.
    return ends == others_than(lane_web, root) and is_wood(lane_web, numbers)


def spreads_or_places(lane_web, strengths, root, k):
    """("spreads", k spreads, each lane in at most as many as its strength), or ("places", some)."""
    refuse_strengths(lane_web, strengths)
    refuse_place(lane_web, root)
    refuse_count(k, 1, MOST_TREES)
    kind, told = led_out(lane_web, strengths, root, k)
    if kind == "places":
        return ("places", told)
    return ("spreads", spread_out(lane_web, strengths, root, k))


def spread_out(lane_web, strengths, root, k):
    """k spreads out of a root, where at least k leads into all sets of places without it."""
    room = list(strengths)
    spreads = []
    while len(spreads) < k:
        spreads.append(spread_by(lane_web, room, root, k - len(spreads) - 1))
    return spreads


def spread_by(lane_web, room, root, left):
    """A spread, taken out of the room that the lanes have, such that so many more are left."""
    reached = [root]
    spread = []
    while len(reached) < lane_web[0]:
        number = lane_on(lane_web, room, root, reached, left)
        room[number] -= 1
        spread.append(number)
        reached.append(lane_web[1][number][1])
    return sorted(spread)


def lane_on(lane_web, room, root, reached, left):
    """A lane that leads on from the reached places and can be spared."""
    fitting = [number for number, (a, b) in enumerate(lane_web[1])
               if a in reached and b not in reached and room[number] > 0]
    at = 0
    # There is one: take the fewest places, not all reached, that can spare nothing. More than that
    # leads to those of them which are not reached, so some of it comes from the others of them.
    while not is_spared(lane_web, room, root, fitting[at], left):
        at += 1
    return fitting[at]


def is_spared(lane_web, room, root, number, left):
    """Whether so many more spreads are left when a lane is taken once."""
    # Only into places with the lane's end there leads less than before.
    goal = lane_web[1][number][1]
    return led_up_to(lane_web, made_of(room, number, room[number] - 1), root, goal, left)[0] == left


def made_of(strengths, number, strength):
    """The strengths, but of this lane another one."""
    return [strength if at == number else other for at, other in enumerate(strengths)]


def lane_use(lane_web, strengths, root, k, number):
    """(least, spreads, places): the least of k spreads that use a lane, and what lets no fewer use it, or None."""
    refuse_strengths(lane_web, strengths)
    refuse_place(lane_web, root)
    refuse_count(k, 1, MOST_TREES)
    refuse_number(lane_web, number)
    kind, told = led_out(lane_web, strengths, root, k)
    if kind == "places":
        raise NoSpreads(told)
    # Without the lane less leads only into places that it enters. To the root itself always k comes.
    goal = lane_web[1][number][1]
    amount, sent, places = led_up_to(lane_web, made_of(strengths, number, 0), root, goal, k)
    least = k - amount
    spreads = spread_out(lane_web, made_of(strengths, number, least), root, k)
    return (least, spreads, places if least > 0 else None)
