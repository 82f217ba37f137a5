"""What leads from ties to lanes: trees turned into spreads, splits into strengths of lanes."""

from treesapart.checks import refuse_place
from treesapart.rings import way_by


def turned_out(web, trees, root):
    """(lane web, spreads): trees that share no tie, each turned away from the root."""
    refuse_place(web, root)
    lanes = []
    spreads = []
    for tree in trees:
        first = len(lanes)
        lanes.extend(lanes_away(web, tree, root))
        spreads.append(list(range(first, len(lanes))))
    return ((web[0], tuple(lanes)), spreads)


def lanes_away(web, tree, root):
    """A lane for each tie of a tree, leading away from the root."""
    steps = [len(way_by(web, tree, root, place)) for place in range(web[0])]
    ties = [web[1][number] for number in tree]
    return [(a, b) if steps[a] < steps[b] else (b, a) for a, b in ties]


def split_lanes(web, share, split):
    """(lane web, strengths): for each tie a lane to each end, as strong as what goes there."""
    lanes = tuple(lane for a, b in web[1] for lane in ((b, a), (a, b)))
    strengths = [part for amount, first in zip(share, split) for part in (first, amount - first)]
    return ((web[0], lanes), strengths)
