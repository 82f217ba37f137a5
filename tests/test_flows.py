"""treesapart.flows: greatest flows, flows out of a root, and places into which too little leads."""

import itertools
import random

from tests.papers import Papers, leading_in, least_in, sets_of
from tests.things import odd_amounts, odd_from, odd_things
from tests.webs import GREAT, LANE_EDGES, many_lane_webs, odd_strengths, strengths_for
from treesapart.errors import NoCount, NoMost, NoPlace, NoStrengths
from treesapart.flows import flow, flows_or_places, most_out
from treesapart.lanes import made_lanes

SOME = (made_lanes(3, [(0, 1), (1, 2)]), made_lanes(2, [(1, 0)]), made_lanes(3, []), made_lanes(1, []))


def some_pairs(rng, places):
    """A few tuples of two unlike places."""
    return [tuple(rng.sample(range(places), 2)) for _ in range(3 if places > 1 else 0)]


def least_cut(lane_web, strengths, start, goal):
    """The least that leads into some places with the goal, without the start."""
    others = [place for place in range(lane_web[0]) if place not in (start, goal)]
    return min(leading_in(lane_web, strengths, some + [goal]) for some in sets_of(others, 0))


class Flows(Papers):
    def assert_greatest(self, lane_web, strengths, start, goal):
        """Go over a greatest flow and the places that let no more come; its amount."""
        told = flow(lane_web, strengths, start, goal)
        self.assertIs(type(told), tuple)
        amount, sent, places = told
        self.assert_whole(amount)
        self.assert_flow(lane_web, strengths, sent, start, goal, amount)
        self.assert_without_root(lane_web, start, places)
        self.assertIn(goal, places)
        self.assertEqual(leading_in(lane_web, strengths, places), amount)
        return amount

    def assert_flows(self, lane_web, strengths, root, k, flows):
        """A flow of amount k to each place but the root, rising."""
        self.assertIs(type(flows), list)
        goals = [place for place in range(lane_web[0]) if place != root]
        self.assertEqual(len(flows), len(goals))
        for goal, sent in zip(goals, flows):
            self.assert_flow(lane_web, strengths, sent, root, goal, k)

    def assert_answer(self, lane_web, strengths, root, k):
        """Go over the flows, or the places; whether there are flows."""
        told = flows_or_places(lane_web, strengths, root, k)
        self.assertIs(type(told), tuple)
        self.assertEqual(len(told), 2)
        if told[0] == "flows":
            self.assert_flows(lane_web, strengths, root, k, told[1])
        else:
            self.assertEqual(told[0], "places")
            self.assert_too_little(lane_web, strengths, root, k, told[1])
        return told[0] == "flows"

    def assert_most(self, lane_web, strengths, root):
        told = most_out(lane_web, strengths, root)
        self.assertIs(type(told), tuple)
        k, flows, places = told
        self.assert_whole(k)
        self.assert_flows(lane_web, strengths, root, k, flows)
        self.assert_without_root(lane_web, root, places)
        self.assertEqual(leading_in(lane_web, strengths, places), k)
        return k


class FlowTest(Flows):
    def test_strengths_of_all_kinds(self):
        rng = random.Random(121)
        for lane_web in LANE_EDGES + many_lane_webs(121, 120):
            for strengths in strengths_for(lane_web, rng):
                for start, goal in some_pairs(rng, lane_web[0]):
                    self.assert_greatest(lane_web, strengths, start, goal)

    def test_against_all_sets_of_places(self):
        rng = random.Random(122)
        for lane_web in LANE_EDGES + many_lane_webs(122, 80, 6):
            for strengths in strengths_for(lane_web, rng):
                for start, goal in some_pairs(rng, lane_web[0])[:2]:
                    amount = self.assert_greatest(lane_web, strengths, start, goal)
                    self.assertEqual(amount, least_cut(lane_web, strengths, start, goal))

    def test_many_times_as_strong(self):
        rng = random.Random(123)
        for lane_web in many_lane_webs(123, 60):
            strengths = [rng.randint(0, 3) for _ in lane_web[1]]
            for start, goal in some_pairs(rng, lane_web[0]):
                amount = self.assert_greatest(lane_web, strengths, start, goal)
                for times in (2, 10, GREAT):
                    great = [one * times for one in strengths]
                    self.assertEqual(self.assert_greatest(lane_web, great, start, goal), amount * times)

    def test_lanes_into_the_start_and_out_of_the_goal(self):
        lane_web = made_lanes(4, [(1, 0), (0, 1), (3, 1), (1, 3), (3, 0), (2, 0), (3, 2)])
        self.assertEqual(self.assert_greatest(lane_web, [9, 5, 9, 4, 9, 9, 9], 0, 3), 4)
        self.assertEqual(self.assert_greatest(lane_web, [9, 3, 9, 4, 9, 9, 9], 0, 3), 3)

    def test_a_goal_that_cannot_be_reached(self):
        lane_web = made_lanes(4, [(0, 1), (1, 0), (3, 1), (3, 2), (2, 3)])
        for strength in (0, 1, GREAT):
            self.assertEqual(self.assert_greatest(lane_web, [strength] * 5, 0, 3), 0)
            self.assertEqual(self.assert_greatest(lane_web, [strength] * 5, 0, 2), 0)
            self.assertEqual(self.assert_greatest(lane_web, [strength] * 5, 2, 0), strength)
        self.assertEqual(flow(made_lanes(2, []), [], 0, 1), (0, [], [1]))
        self.assertEqual(flow(made_lanes(2, [(1, 0)]), [7], 0, 1), (0, [0], [1]))

    def test_a_narrow_lane_across(self):
        # Taken by any ways this may go to and fro over the lane of strength 1, one by one.
        for lanes in itertools.permutations([(0, 1), (0, 2), (1, 2), (1, 3), (2, 3)]):
            strengths = [1 if lane == (1, 2) else GREAT for lane in lanes]
            self.assertEqual(self.assert_greatest(made_lanes(4, lanes), strengths, 0, 3), 2 * GREAT)

    def test_one_lane_both_ways_and_many_of_the_same(self):
        lane_web = made_lanes(2, [(0, 1), (1, 0)])
        self.assertEqual(self.assert_greatest(lane_web, [3, 5], 0, 1), 3)
        self.assertEqual(self.assert_greatest(lane_web, [3, 5], 1, 0), 5)
        self.assertEqual(self.assert_greatest(made_lanes(2, [(0, 1)] * 60), [GREAT] * 60, 0, 1), 60 * GREAT)

    def test_refusals_and_their_order(self):
        for lane_web in SOME:
            right = [1] * len(lane_web[1])
            for strengths in odd_strengths(len(right), odd_things()):
                for start, goal in ((0, 1), (0, 0), (None, 1), (0, 9)):
                    self.assert_refused(NoStrengths, flow, lane_web, strengths, start, goal)
            for thing in odd_from(0, lane_web[0]):
                for place in (0, lane_web[0] - 1, thing):
                    self.assert_refused(NoPlace, flow, lane_web, right, thing, place)
                    self.assert_refused(NoPlace, flow, lane_web, tuple(right), place, thing)
            for place in range(lane_web[0]):
                self.assert_refused(NoPlace, flow, lane_web, right, place, place)

    def test_what_is_told_and_handed_in(self):
        rng = random.Random(124)
        for lane_web in LANE_EDGES[1::2] + many_lane_webs(124, 20):
            for strengths in strengths_for(lane_web, rng):
                kept = list(strengths)
                for start, goal in some_pairs(rng, lane_web[0])[:1]:
                    self.assert_own(lambda: flow(lane_web, strengths, start, goal))
                    told = flow(lane_web, strengths, start, goal)
                    self.assertEqual(flow(lane_web, tuple(strengths), start, goal), told)
                    self.assertEqual(strengths, kept)
        lane_web, strengths = made_lanes(2, [(0, 1)]), [3]
        told = flow(lane_web, strengths, 0, 1)
        strengths[0] = 4
        self.assertEqual(told, (3, [3], [1]))
        self.assertEqual(flow(lane_web, strengths, 0, 1), (4, [4], [1]))


class FlowsOrPlacesTest(Flows):
    def test_strengths_of_all_kinds(self):
        rng = random.Random(125)
        for lane_web in LANE_EDGES + many_lane_webs(125, 50):
            for strengths in strengths_for(lane_web, rng):
                root = rng.randrange(lane_web[0])
                for k in (0, 1, 2, 5, rng.randint(0, sum(strengths)), GREAT, 10 ** 60 - 1):
                    self.assert_answer(lane_web, strengths, root, k)

    def test_just_at_and_just_beyond_the_most(self):
        rng = random.Random(126)
        found = []
        for lane_web in LANE_EDGES + many_lane_webs(126, 60, 6):
            for strengths in strengths_for(lane_web, rng) if lane_web[0] > 1 else []:
                root = rng.randrange(lane_web[0])
                most = least_in(lane_web, strengths, root)
                for k in {0, max(0, most - 1), most, most + 1, 2 * most + 1}:
                    self.assertIs(self.assert_answer(lane_web, strengths, root, k), k <= most)
                found.append(most)
        self.assertGreater(len(set(found)), 50)

    def test_flows_of_less_than_could_come(self):
        lane_web = made_lanes(3, [(0, 1), (0, 2), (1, 2)])
        self.assertEqual(flows_or_places(lane_web, [9, 9, 9], 0, 0), ("flows", [[0, 0, 0]] * 2))
        self.assertTrue(self.assert_answer(lane_web, [9, 1, 9], 0, 4))
        self.assertFalse(self.assert_answer(lane_web, [9, 9, 9], 1, 4))
        self.assertFalse(self.assert_answer(lane_web, [9, 9, 9], 2, 1))

    def test_one_place(self):
        for k in (0, 1, 12, GREAT):
            self.assertEqual(flows_or_places(made_lanes(1, []), [], 0, k), ("flows", []))
            self.assertEqual(flows_or_places(made_lanes(1, []), (), 0, k), ("flows", []))

    def test_refusals_and_their_order(self):
        for lane_web in SOME:
            right = [1] * len(lane_web[1])
            for strengths in odd_strengths(len(right), odd_things()):
                for root, k in ((0, 1), (9, 1), (None, None), (0, -1)):
                    self.assert_refused(NoStrengths, flows_or_places, lane_web, strengths, root, k)
            for root in odd_from(0, lane_web[0]):
                for k in (0, 1, -1, None):
                    self.assert_refused(NoPlace, flows_or_places, lane_web, right, root, k)
            for k in odd_amounts():
                self.assert_refused(NoCount, flows_or_places, lane_web, right, 0, k)
                self.assert_refused(NoCount, flows_or_places, lane_web, tuple(right), lane_web[0] - 1, k)

    def test_what_is_told_and_handed_in(self):
        rng = random.Random(127)
        for lane_web in LANE_EDGES[::2] + many_lane_webs(127, 12):
            for strengths in strengths_for(lane_web, rng)[::2]:
                kept = list(strengths)
                for k in (0, 1, GREAT):
                    self.assert_own(lambda: flows_or_places(lane_web, strengths, 0, k))
                    told = flows_or_places(lane_web, strengths, 0, k)
                    self.assertEqual(flows_or_places(lane_web, tuple(strengths), 0, k), told)
                    self.assertEqual(strengths, kept)
        lane_web, strengths = made_lanes(2, [(0, 1)]), [3]
        told = flows_or_places(lane_web, strengths, 0, 3)
        strengths[0] = 2
        self.assertEqual(told, ("flows", [[3]]))
        self.assertEqual(flows_or_places(lane_web, strengths, 0, 3), ("places", [1]))


class MostOutTest(Flows):
    def test_strengths_of_all_kinds(self):
        rng = random.Random(128)
        for lane_web in LANE_EDGES + many_lane_webs(128, 50):
            for strengths in strengths_for(lane_web, rng) if lane_web[0] > 1 else []:
                root = rng.randrange(lane_web[0])
                most = self.assert_most(lane_web, strengths, root)
                self.assertTrue(self.assert_answer(lane_web, strengths, root, most))
                self.assertFalse(self.assert_answer(lane_web, strengths, root, most + 1))

    def test_against_all_sets_of_places(self):
        rng = random.Random(129)
        for lane_web in LANE_EDGES + many_lane_webs(129, 60, 6):
            for strengths in strengths_for(lane_web, rng)[1::2] if lane_web[0] > 1 else []:
                for root in range(lane_web[0]):
                    most = self.assert_most(lane_web, strengths, root)
                    self.assertEqual(most, least_in(lane_web, strengths, root))

    def test_each_root_has_its_own_most(self):
        lane_web = made_lanes(3, [(0, 1), (1, 2), (2, 0), (0, 1)])
        self.assertEqual([self.assert_most(lane_web, [1, 2, 3, 4], root) for root in (0, 1, 2)], [2, 2, 3])
        self.assertEqual(most_out(lane_web, [1, 2, 0, 4], 0)[0], 2)
        self.assertEqual(self.assert_most(lane_web, [1, 2, 0, 4], 2), 0)

    def test_refusals_and_their_order(self):
        for lane_web in SOME:
            right = [1] * len(lane_web[1])
            for strengths in odd_strengths(len(right), odd_things()):
                for root in (0, 9, None):
                    self.assert_refused(NoStrengths, most_out, lane_web, strengths, root)
            for root in odd_from(0, lane_web[0]):
                self.assert_refused(NoPlace, most_out, lane_web, right, root)
                self.assert_refused(NoPlace, most_out, lane_web, tuple(right), root)
        self.assert_refused(NoMost, most_out, made_lanes(1, []), [], 0)
        self.assert_refused(NoMost, most_out, made_lanes(1, []), (), 0)

    def test_what_is_told_and_handed_in(self):
        rng = random.Random(130)
        for lane_web in LANE_EDGES[1::2] + many_lane_webs(130, 12):
            for strengths in strengths_for(lane_web, rng)[::2] if lane_web[0] > 1 else []:
                kept = list(strengths)
                self.assert_own(lambda: most_out(lane_web, strengths, 1))
                self.assertEqual(most_out(lane_web, tuple(strengths), 1), most_out(lane_web, strengths, 1))
                self.assertEqual(strengths, kept)
        lane_web, strengths = made_lanes(2, [(0, 1)]), [3]
        told = most_out(lane_web, strengths, 0)
        strengths[0] = 4
        self.assertEqual(told, (3, [[3]], [1]))
        self.assertEqual(most_out(lane_web, strengths, 0), (4, [[4]], [1]))
