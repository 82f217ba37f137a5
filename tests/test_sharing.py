"""treesapart.sharing: shares of strengths with their splits, or a parting; the most."""

import random

from tests.papers import Papers, most_of
from tests.things import odd_amounts, odd_things
from tests.webs import EDGES, GREAT, many_webs, odd_strengths, strengths_for
from treesapart.errors import NoCount, NoMost, NoStrengths
from treesapart.layout import made_web
from treesapart.packing import most_trees
from treesapart.sharing import most_share, share_or_parting

ODD_COUNTS = odd_amounts()


class Sharing(Papers):
    def assert_answer(self, web, strengths, k, told):
        """Go over the share, or the parting; whether there is a share."""
        self.assertIs(type(told), tuple)
        if told[0] == "share":
            self.assertEqual(len(told), 3)
            self.assert_share(web, strengths, k, *told[1:])
        else:
            self.assertEqual((told[0], len(told)), ("parting", 2))
            self.assert_too_weak(web, strengths, told[1], k)
        return told[0] == "share"

    def assert_most(self, web, strengths):
        told = most_share(web, strengths)
        self.assertIs(type(told), tuple)
        k, share, splits, parting = told
        self.assert_whole(k)
        self.assertGreaterEqual(k, 0)
        self.assert_share(web, strengths, k, share, splits)
        self.assert_too_weak(web, strengths, parting, k + 1)
        return k


class ShareOrPartingTest(Sharing):
    def test_strengths_of_all_kinds(self):
        rng = random.Random(81)
        for web in EDGES + many_webs(81, 60):
            for strengths in strengths_for(web, rng):
                most = max(1, sum(strengths) // max(1, web[0] - 1))
                for k in (0, 1, 2, 5, rng.randint(0, most), most, most + 1, 10 ** 60 - 1):
                    self.assert_answer(web, strengths, k, share_or_parting(web, strengths, k))

    def test_just_at_and_just_beyond_the_most(self):
        rng = random.Random(82)
        for web in EDGES[1:6] + many_webs(82, 80, 5):
            for strengths in strengths_for(web, rng) if web[0] > 1 else []:
                most = most_of(web, strengths)
                for k in {0, max(0, most - 1), most // 2, most, most + 1, 2 * most + 1}:
                    told = share_or_parting(web, strengths, k)
                    self.assertIs(self.assert_answer(web, strengths, k, told), k <= most)

    def test_just_at_and_just_beyond_the_most_of_great_webs(self):
        rng = random.Random(83)
        for web in many_webs(83, 60):
            for strengths in strengths_for(web, rng) if web[0] > 1 else []:
                most = most_share(web, strengths)[0]
                told = share_or_parting(web, strengths, most)
                self.assertTrue(self.assert_answer(web, strengths, most, told))
                told = share_or_parting(web, strengths, most + 1)
                self.assertFalse(self.assert_answer(web, strengths, most + 1, told))

    def test_one_place(self):
        for k in (0, 1, 30, GREAT):
            self.assertEqual(share_or_parting(made_web(1, []), [], k), ("share", [], [[]]))
            self.assertEqual(share_or_parting(made_web(1, []), (), k), ("share", [], [[]]))

    def test_a_share_for_none(self):
        for web in EDGES:
            nothing = [0] * len(web[1])
            for strength in (0, 1, GREAT):
                told = share_or_parting(web, [strength] * len(web[1]), 0)
                self.assertEqual(told, ("share", nothing, [nothing for _ in range(web[0])]))

    def test_a_tie_that_must_give_way(self):
        # Taken by the strengths alone the first ties would leave nothing for the last place.
        web = made_web(3, [(0, 1), (0, 1), (1, 2)])
        self.assertEqual(share_or_parting(web, [4, 4, 1], 1)[0], "share")
        self.assertEqual(share_or_parting(web, [4, 4, 1], 2), ("parting", [[0, 1], [2]]))

    def test_refusals_and_their_order(self):
        for web in (made_web(3, [(0, 1), (1, 2)]), made_web(2, [(0, 1)]), made_web(3, []), made_web(1, [])):
            right = [1] * len(web[1])
            share_or_parting(web, right, 1)
            for strengths in odd_strengths(len(right), odd_things()):
                self.assert_refused(NoStrengths, share_or_parting, web, strengths, 1)
                self.assert_refused(NoStrengths, share_or_parting, web, strengths, None)
                self.assert_refused(NoStrengths, share_or_parting, web, strengths, -1)
            for k in ODD_COUNTS:
                self.assert_refused(NoCount, share_or_parting, web, right, k)
                self.assert_refused(NoCount, share_or_parting, web, tuple(right), k)

    def test_what_is_told_and_handed_in(self):
        rng = random.Random(84)
        for web in EDGES[::3] + many_webs(84, 12):
            for strengths in strengths_for(web, rng):
                kept = list(strengths)
                for k in (0, 1, GREAT):
                    self.assert_own(lambda: share_or_parting(web, strengths, k))
                    told = share_or_parting(web, strengths, k)
                    self.assertEqual(share_or_parting(web, tuple(strengths), k), told)
                    self.assertEqual(strengths, kept)
        web, strengths = made_web(2, [(0, 1)]), [3]
        told = share_or_parting(web, strengths, 3)
        strengths[0] = 2
        self.assertEqual(told, ("share", [3], [[0], [3]]))
        self.assertEqual(share_or_parting(web, strengths, 3), ("parting", [[0], [1]]))


class MostShareTest(Sharing):
    def test_strengths_of_all_kinds(self):
        rng = random.Random(85)
        for web in EDGES + many_webs(85, 120):
            for strengths in strengths_for(web, rng) if web[0] > 1 else []:
                self.assert_most(web, strengths)

    def test_against_all_partings(self):
        rng = random.Random(86)
        for web in EDGES[1:6] + many_webs(86, 80, 6):
            for strengths in strengths_for(web, rng) if web[0] > 1 else []:
                self.assertEqual(self.assert_most(web, strengths), most_of(web, strengths))

    def test_of_ones_as_many_as_trees(self):
        for web in EDGES + many_webs(87, 60):
            if web[0] > 1:
                self.assertEqual(self.assert_most(web, [1] * len(web[1])), most_trees(web)[0])

    def test_many_times_as_strong(self):
        rng = random.Random(88)
        for web in many_webs(88, 60):
            if web[0] > 1:
                # 840 is a whole number of times each number of parts less 1, so the most grows just so.
                whole = [rng.randint(0, 3) * 840 for _ in web[1]]
                most = self.assert_most(web, whole)
                small = [one // 840 for one in whole]
                few = self.assert_most(web, small)
                for times in (2, 10, GREAT):
                    self.assertEqual(self.assert_most(web, [one * times for one in whole]), most * times)
                    grown = self.assert_most(web, [one * times for one in small])
                    self.assertGreaterEqual(grown, few * times)
                    self.assertLess(grown, (few + 1) * times)

    def test_refusals_and_their_order(self):
        for web in (made_web(3, [(0, 1), (1, 2)]), made_web(3, []), made_web(1, [])):
            for strengths in odd_strengths(len(web[1]), odd_things()):
                self.assert_refused(NoStrengths, most_share, web, strengths)
        self.assert_refused(NoMost, most_share, made_web(1, []), [])
        self.assert_refused(NoMost, most_share, made_web(1, []), ())

    def test_what_is_told_and_handed_in(self):
        rng = random.Random(89)
        for web in EDGES[1::3] + many_webs(89, 12):
            for strengths in strengths_for(web, rng) if web[0] > 1 else []:
                kept = list(strengths)
                self.assert_own(lambda: most_share(web, strengths))
                self.assertEqual(most_share(web, tuple(strengths)), most_share(web, strengths))
                self.assertEqual(strengths, kept)
        web, strengths = made_web(2, [(0, 1)]), [3]
        told = most_share(web, strengths)
        strengths[0] = 2
        self.assertEqual(told, (3, [3], [[0], [3]], [[0], [1]]))
        self.assertEqual(most_share(web, strengths), (2, [2], [[0], [2]], [[0], [1]]))
