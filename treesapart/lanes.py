"""Lane webs: places, and lanes, which lead from one place to another."""

from treesapart.layout import MOST_LANES, refuse_layout


def made_lanes(places, lanes):
    """The lane web of so many places with the lanes of a list, in its order."""
    refuse_layout(places, lanes, MOST_LANES)
    return (places, tuple((a, b) for a, b in lanes))


def entering(lane_web, places):
    """The numbers of the lanes that lead from another place to one of these."""
    return [number for number, (a, b) in enumerate(lane_web[1]) if a not in places and b in places]
