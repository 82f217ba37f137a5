"""Many webs to look at, always the same ones."""

import random

from treesapart.lanes import made_lanes
from treesapart.layout import made_web


def any_ties(rng, places, ties):
    """So many ties between any places of a list."""
    return [tuple(rng.sample(places, 2)) for _ in range(ties if len(places) > 1 else 0)]


def any_tree(rng, places):
    """The ties of a tree over the places of a list."""
    order = rng.sample(places, len(places))
    return [(order[at], rng.choice(order[:at])) for at in range(1, len(order))]


def loose(rng, most, room=30):
    places = list(range(rng.randint(1, most)))
    return len(places), any_ties(rng, places, rng.randint(0, room))


def treelike(rng, most):
    """Trees laid together and a few more ties."""
    places = list(range(rng.randint(2, most)))
    ties = []
    for _ in range(rng.randint(1, 30 // (len(places) - 1))):
        ties += any_tree(rng, places)
    return len(places), (ties + any_ties(rng, places, rng.randint(0, 4)))[:30]


def clumps(rng, most):
    """Two clumps of places with few ties between."""
    places = list(range(rng.randint(2, most)))
    cut = rng.randint(1, len(places) - 1)
    ties = any_ties(rng, places[:cut], rng.randint(0, 13)) + any_ties(rng, places[cut:], rng.randint(0, 13))
    bridges = [(rng.choice(places[:cut]), rng.choice(places[cut:])) for _ in range(rng.randint(0, 4))]
    return len(places), ties + bridges


def thick(rng, most):
    """Two or three places with up to thirty ties."""
    places = list(range(rng.randint(2, min(3, most))))
    return len(places), any_ties(rng, places, rng.randint(0, 30))


def made_by(make, kinds, seed, count, most):
    """So many webs, or lane webs, of at most so many places, of each kind by turns."""
    rng = random.Random(seed)
    found = []
    for at in range(count):
        places, ties = kinds[at % len(kinds)](rng, most)
        rng.shuffle(ties)
        found.append(make(places, ties))
    return found


def many_webs(seed, count, most=9):
    return made_by(made_web, (loose, treelike, clumps, thick), seed, count, most)


def loose_lanes(rng, most):
    return loose(rng, most, 60)


def any_spread(rng, root, others):
    """The lanes of a spread out of the root."""
    order = [root] + rng.sample(others, len(others))
    return [(rng.choice(order[:at]), order[at]) for at in range(1, len(order))]


def spreadlike(rng, most):
    """Spreads out of one place laid together, and a few more lanes."""
    many = rng.randint(2, most)
    root, *others = rng.sample(range(many), many)
    lanes = [lane for _ in range(rng.randint(1, 60 // (many - 1))) for lane in any_spread(rng, root, others)]
    return many, (lanes + any_ties(rng, range(many), rng.randint(0, 4)))[:60]


def round_about(rng, most):
    """Rounds through all places, the one way or the other, which lead from everywhere to everywhere."""
    places = list(range(rng.randint(2, most)))
    lanes = []
    for _ in range(rng.randint(1, 60 // len(places))):
        order = rng.sample(places, len(places))
        lanes += [(order[at - 1], order[at]) for at in range(len(order))]
    return len(places), lanes


def lane_clumps(rng, most):
    """Two clumps of places with few lanes between, perhaps the one way only."""
    places = list(range(rng.randint(2, most)))
    cut = rng.randint(1, len(places) - 1)
    lanes = any_ties(rng, places[:cut], rng.randint(0, 26)) + any_ties(rng, places[cut:], rng.randint(0, 26))
    bridges = [(rng.choice(places[:cut]), rng.choice(places[cut:])) for _ in range(rng.randint(0, 4))]
    return len(places), lanes + bridges + [(b, a) for a, b in bridges[:rng.randint(0, 4)]]


def many_lane_webs(seed, count, most=9):
    return made_by(made_lanes, (loose_lanes, spreadlike, round_about, lane_clumps), seed, count, most)


LANE_EDGES = [
    made_lanes(1, []), made_lanes(2, []), made_lanes(9, []), made_lanes(2, [(0, 1)]), made_lanes(2, [(1, 0)]),
    made_lanes(2, [(0, 1), (1, 0)] * 30), made_lanes(2, [(1, 0)] * 60), made_lanes(9, [(0, 8)] * 60),
    made_lanes(3, [(0, 1), (1, 2), (2, 0)] * 20), made_lanes(4, [(0, 1), (1, 2), (2, 1), (3, 2), (2, 3)]),
    made_lanes(9, [(at, at + 1) for at in range(8)]), made_lanes(9, [(at + 1, at) for at in range(8)]),
    made_lanes(9, [(at, (at + step) % 9) for step in (1, 2, 4, 5, 7, 8) for at in range(9)]),
    made_lanes(8, [(a, b) for a in range(8) for b in range(8) if a != b]),
]

EDGES = [
    made_web(1, []), made_web(2, []), made_web(9, []),
    made_web(2, [(0, 1)]), made_web(2, [(0, 1)] * 2), made_web(2, [(1, 0)] * 29), made_web(2, [(0, 1)] * 30),
    made_web(3, [(0, 1)] * 30), made_web(3, [(0, 1), (1, 2), (0, 2)] * 10), made_web(9, [(0, 8)] * 30),
    made_web(4, [(0, 1), (0, 2), (0, 3), (1, 2), (1, 3), (2, 3)] * 5),
    made_web(9, [(at, (at + step) % 9) for step in (1, 2, 4) for at in range(9)]),
    made_web(6, [(a, b) for b in range(6) for a in range(b)] * 2),
]

GREAT = 10 ** 59 + 7


def strengths_for(web, rng):
    """Strengths of all kinds: none, ones, small ones, one great, all great, and small ones times a great one."""
    many = len(web[1])
    one_great = [rng.randint(0, 3) for _ in range(many)]
    if many:
        one_great[rng.randrange(many)] = GREAT
    return [
        [0] * many, [1] * many, one_great, [GREAT] * many,
        [rng.randint(0, 3) for _ in range(many)],
        [rng.randint(0, 10 ** 60 - 1) for _ in range(many)],
        [rng.randint(0, 3) * GREAT for _ in range(many)],
        [rng.choice((0, 1, 50, GREAT, rng.randint(0, 10 ** 30))) for _ in range(many)],
    ]


def odd_strengths(many, things):
    """Things that are no strengths of so many ties."""
    right = [1] * many
    # Among these are things of as many signs, bytes or keys as there are ties; yet they are no list.
    odd = [None, "", "1" * many, 1, 0, {}, {number: 1 for number in range(many)}, set(), True, b"\x01" * many,
           range(many), right + [1], tuple(right + [0]), [right], (right, right), iter(right)]
    if many:
        odd += [[], (), right[1:], tuple(right[1:])]
        for thing in things + [-1, -10 ** 59]:
            odd += [[thing] + right[1:], right[1:] + [thing], tuple(right[1:]) + (thing,)]
    return odd
