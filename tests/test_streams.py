"""treesapart.streams: the ways along which flows are found, which no told flow shows."""

import random

from tests.papers import Papers
from tests.webs import LANE_EDGES, many_lane_webs
from treesapart.streams import exits_of, ways_from


def ends_of(lanes, step):
    """The places from and to which a step leads: along a lane, or back along it."""
    a, b = lanes[step // 2]
    return (b, a) if step % 2 else (a, b)


def layers(lanes, room, start):
    """How many steps with room one goes at the fewest to each place that can be reached."""
    steps = {start: 0}
    for many in range(len(lanes)):
        for step in range(2 * len(lanes)):
            a, b = ends_of(lanes, step)
            if room[step] and steps.get(a) == many:
                steps.setdefault(b, many + 1)
    return steps


class WaysTest(Papers):
    def test_ways_are_of_fewest_steps(self):
        rng = random.Random(181)
        longest = 0
        for places, lanes in LANE_EDGES + many_lane_webs(181, 120):
            for most in (1, 1, 3):
                room = [rng.randint(0, most) for _ in range(2 * len(lanes))]
                start = rng.randrange(places)
                ways = ways_from(exits_of(places, lanes), room, start)
                self.assertEqual({end: len(way) for end, way in ways.items()}, layers(lanes, room, start))
                for end, way in ways.items():
                    at = start
                    for step in way:
                        self.assertGreater(room[step], 0)
                        self.assertEqual(ends_of(lanes, step)[0], at)
                        at = ends_of(lanes, step)[1]
                    self.assertEqual(at, end)
                    longest = max(longest, len(way))
        self.assertGreater(longest, 4)
