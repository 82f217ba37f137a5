"""treesapart.joins: trees turned out of a place, splits turned to lanes."""

import random

from tests.papers import Papers, are_spread, leading_in, sets_of
from tests.things import as_tuples, odd_from
from tests.webs import EDGES, GREAT, any_tree, many_webs, strengths_for
from treesapart.errors import NoPlace
from treesapart.flows import flows_or_places, most_out
from treesapart.joins import split_lanes, turned_out
from treesapart.lanes import made_lanes
from treesapart.layout import made_web
from treesapart.packing import most_trees, trees_or_parting
from treesapart.sharing import most_share, share_or_parting
from treesapart.spreads import is_spread, spreads_or_places


def steps_from(web, numbers, root):
    """How many of these ties one goes along to each place."""
    steps, reached = {root: 0}, [root]
    for place in reached:
        for number in numbers:
            a, b = web[1][number]
            for one, other in ((a, b), (b, a)):
                if one == place and other not in steps:
                    steps[other] = steps[one] + 1
                    reached.append(other)
    return steps


class TurnedOutTest(Papers):
    def assert_turned(self, web, trees, root):
        told = turned_out(web, trees, root)
        self.assertIs(type(told), tuple)
        lane_web, spreads = told
        self.assertEqual(lane_web, made_lanes(web[0], lane_web[1]))
        self.assertIs(type(lane_web[1]), tuple)
        self.assertIs(type(spreads), list)
        ties = [(number, tree) for tree in trees for number in tree]
        self.assertEqual(len(lane_web[1]), len(ties))
        for (a, b), (number, tree) in zip(lane_web[1], ties):
            self.assertEqual((min(a, b), max(a, b)), web[1][number])
            steps = steps_from(web, tree, root)
            self.assertEqual(steps[a] + 1, steps[b], (web, trees, root))
        self.assertEqual([number for spread in spreads for number in spread], list(range(len(ties))))
        self.assertEqual([len(spread) for spread in spreads], [len(tree) for tree in trees])
        for spread in spreads:
            self.assert_rising(spread, len(ties))
            self.assertTrue(are_spread(lane_web, root, spread))
            self.assertIs(is_spread(lane_web, root, spread), True)
        return lane_web, spreads

    def test_the_most_trees_of_many_webs(self):
        for web in EDGES + many_webs(151, 60):
            if web[0] > 1:
                k, trees, parting = most_trees(web)
                for root in range(web[0]):
                    lane_web, spreads = self.assert_turned(web, trees, root)
                    ones = [1] * len(lane_web[1])
                    self.assertEqual(most_out(lane_web, ones, root)[0], k)
                    if 1 <= k <= 12:
                        self.assertEqual(spreads_or_places(lane_web, ones, root, k)[0], "spreads")

    def test_single_trees(self):
        rng = random.Random(152)
        for places in range(2, 10):
            for _ in range(6):
                web = made_web(places, any_tree(rng, list(range(places))))
                for root in range(places):
                    self.assert_turned(web, [list(range(places - 1))], root)

    def test_lanes_stand_as_the_trees_have_them(self):
        web = made_web(3, [(0, 1), (0, 2), (1, 2), (0, 1)])
        told = turned_out(web, [[1, 3], [0, 2]], 2)
        self.assertEqual(told, ((3, ((2, 0), (0, 1), (1, 0), (2, 1))), [[0, 1], [2, 3]]))
        told = turned_out(web, ((0, 2), (1, 3)), 0)
        self.assertEqual(told, ((3, ((0, 1), (1, 2), (0, 2), (0, 1))), [[0, 1], [2, 3]]))

    def test_no_trees_and_one_place(self):
        self.assertEqual(turned_out(made_web(3, [(0, 1)]), [], 2), ((3, ()), []))
        self.assertEqual(turned_out(made_web(1, []), [[], [], []], 0), ((1, ()), [[], [], []]))
        self.assertEqual(turned_out(made_web(1, []), ((),), 0), ((1, ()), [[]]))

    def test_no_place(self):
        for web in (made_web(1, []), made_web(2, [(0, 1)]), made_web(9, [])):
            for root in odd_from(0, web[0]):
                self.assert_refused(NoPlace, turned_out, web, [], root)
        web = made_web(2, [(0, 1)])
        self.assertEqual(turned_out(web, [[0]], 1), ((2, ((1, 0),)), [[0]]))
        self.assert_refused(NoPlace, turned_out, web, [[0]], True)

    def test_what_is_told_and_handed_in(self):
        for web in EDGES[3::2] + many_webs(153, 12):
            for k in (1, 2):
                kind, trees = trees_or_parting(web, k)
                if kind == "trees":
                    kept = [list(tree) for tree in trees]
                    self.assert_own(lambda: turned_out(web, trees, 0))
                    self.assertEqual(turned_out(web, as_tuples(trees), 0), turned_out(web, trees, 0))
                    self.assertEqual(trees, kept)
        web, trees = made_web(2, [(0, 1), (0, 1)]), [[0], [1]]
        told = turned_out(web, trees, 0)
        trees[0].append(5)
        trees.pop()
        self.assertEqual(told, ((2, ((0, 1), (0, 1))), [[0], [1]]))


class SplitLanesTest(Papers):
    def assert_lanes(self, web, share, split):
        told = split_lanes(web, share, split)
        self.assertIs(type(told), tuple)
        lane_web, strengths = told
        self.assertEqual(lane_web, made_lanes(web[0], [lane for a, b in web[1] for lane in ((b, a), (a, b))]))
        self.assertIs(type(strengths), list)
        self.assert_whole(*strengths)
        self.assertEqual(strengths[0::2], list(split))
        self.assertEqual(strengths[1::2], [amount - first for amount, first in zip(share, split)])
        return lane_web, strengths

    def test_shares_of_many_webs(self):
        rng = random.Random(154)
        for web in EDGES + many_webs(154, 40):
            for strengths in strengths_for(web, rng)[1::2] if web[0] > 1 else []:
                k, share, splits, parting = most_share(web, strengths)
                for root in rng.sample(range(web[0]), min(3, web[0])):
                    lane_web, strong = self.assert_lanes(web, share, splits[root])
                    self.assertEqual(flows_or_places(lane_web, strong, root, k)[0], "flows")
                    # All that there is of the share goes to the other places, k to each, so no more can come.
                    self.assertEqual(most_out(lane_web, strong, root)[0], k)

    def test_whatever_set_of_places_is_looked_at(self):
        rng = random.Random(155)
        for web in EDGES[1:6] + many_webs(155, 40, 6):
            for strengths in strengths_for(web, rng)[1::2] if web[0] > 1 else []:
                most = most_share(web, strengths)[0]
                for k in {0, most // 2, most}:
                    told, share, splits = share_or_parting(web, strengths, k)
                    for root, split in enumerate(splits):
                        lane_web, strong = self.assert_lanes(web, share, split)
                        for places in sets_of([place for place in range(web[0]) if place != root]):
                            self.assertGreaterEqual(leading_in(lane_web, strong, places), k)

    def test_what_goes_to_each_end(self):
        web = made_web(3, [(1, 0), (0, 2)])
        told = split_lanes(web, [7, GREAT], [3, 0])
        self.assertEqual(told, ((3, ((1, 0), (0, 1), (2, 0), (0, 2))), [3, 4, 0, GREAT]))
        self.assertEqual(split_lanes(web, (7, GREAT), (3, 0)), told)

    def test_thirty_ties_and_none(self):
        for web in (made_web(9, [(0, 8)] * 30), made_web(3, [(0, 1), (1, 2), (0, 2)] * 10)):
            lane_web, strengths = self.assert_lanes(web, [5] * 30, [at % 6 for at in range(30)])
            self.assertEqual((len(lane_web[1]), len(strengths)), (60, 60))
        self.assertEqual(split_lanes(made_web(4, []), [], []), ((4, ()), []))
        self.assertEqual(split_lanes(made_web(1, []), (), ()), ((1, ()), []))

    def test_what_is_told_and_handed_in(self):
        web, share, split = made_web(2, [(0, 1)]), [3], [1]
        self.assert_own(lambda: split_lanes(web, share, split))
        told = split_lanes(web, share, split)
        self.assertEqual((share, split), ([3], [1]))
        share[0], split[0] = 9, 9
        self.assertEqual(told, ((2, ((1, 0), (0, 1))), [1, 2]))
        self.assertEqual(split_lanes(web, share, split)[1], [9, 0])
