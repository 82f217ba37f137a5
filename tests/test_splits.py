"""treesapart.splits: splits of strengths for each place, or thick places."""

import random

from tests.papers import Papers, lying_in, sets_of
from tests.things import odd_amounts, odd_things
from tests.webs import EDGES, GREAT, many_webs, odd_strengths, strengths_for
from treesapart.errors import NoCount, NoStrengths
from treesapart.layout import made_web
from treesapart.splits import fewest_for, splits_or_thick

ODD_COUNTS = odd_amounts()


def wanted(web, strengths):
    """The least many for which no places are too thick."""
    inside = [(sum(strengths[number] for number in lying_in(web, places)), len(places) - 1)
              for places in sets_of(range(web[0]), 2)]
    return max([-(-together // most) for together, most in inside], default=0)


class Splits(Papers):
    def assert_answer(self, web, strengths, many, told):
        """Go over the splits, or the thick places; whether there are splits."""
        self.assertIs(type(told), tuple)
        self.assertEqual(len(told), 2)
        if told[0] == "splits":
            self.assert_splits(web, strengths, told[1], many, False)
        else:
            self.assertEqual(told[0], "thick")
            self.assert_thick(web, strengths, told[1], many)
        return told[0] == "splits"

    def assert_fewest(self, web, strengths):
        told = fewest_for(web, strengths)
        self.assertIs(type(told), tuple)
        many, splits, places = told
        self.assert_whole(many)
        self.assert_splits(web, strengths, splits, many, False)
        if many:
            self.assert_thick(web, strengths, places, many - 1)
        else:
            self.assertIsNone(places)
        return many


class SplitsOrThickTest(Splits):
    def test_strengths_of_all_kinds(self):
        rng = random.Random(71)
        for web in EDGES + many_webs(71, 100):
            for strengths in strengths_for(web, rng):
                most = max(1, sum(strengths))
                for many in (0, 1, 2, 5, rng.randint(0, most), most, GREAT, 10 ** 60 - 1):
                    self.assert_answer(web, strengths, many, splits_or_thick(web, strengths, many))

    def test_just_at_and_just_below_the_fewest(self):
        rng = random.Random(72)
        for web in EDGES[:6] + many_webs(72, 80, 6):
            for strengths in strengths_for(web, rng):
                few = wanted(web, strengths)
                for many in {0, max(0, few - 1), few, few + 1, 2 * few}:
                    told = splits_or_thick(web, strengths, many)
                    self.assertIs(self.assert_answer(web, strengths, many, told), many >= few)

    def test_a_triangle(self):
        web = made_web(3, [(0, 1), (1, 2), (0, 2)])
        self.assertEqual(splits_or_thick(web, [1, 0, 1], 1), ("splits", [[0, 0, 0], [1, 0, 0], [0, 0, 1]]))
        self.assertEqual(splits_or_thick(web, [1, 1, 1], 1), ("thick", [0, 1, 2]))
        self.assertEqual(splits_or_thick(web, [2, 0, 0], 1), ("thick", [0, 1]))

    def test_one_place_and_no_strength(self):
        for many in (0, 1, GREAT):
            self.assertEqual(splits_or_thick(made_web(1, []), [], many), ("splits", [[]]))
            self.assertEqual(splits_or_thick(made_web(3, []), (), many), ("splits", [[], [], []]))
            self.assertEqual(splits_or_thick(made_web(2, [(0, 1)]), [0], many), ("splits", [[0], [0]]))

    def test_refusals_and_their_order(self):
        for web in (made_web(3, [(0, 1), (1, 2)]), made_web(2, [(0, 1)]), made_web(3, []), made_web(1, [])):
            right = [1] * len(web[1])
            splits_or_thick(web, right, 1)
            for strengths in odd_strengths(len(right), odd_things()):
                self.assert_refused(NoStrengths, splits_or_thick, web, strengths, 1)
                self.assert_refused(NoStrengths, splits_or_thick, web, strengths, None)
                self.assert_refused(NoStrengths, splits_or_thick, web, strengths, -1)
            for many in ODD_COUNTS:
                self.assert_refused(NoCount, splits_or_thick, web, right, many)
                self.assert_refused(NoCount, splits_or_thick, web, tuple(right), many)

    def test_what_is_told_and_handed_in(self):
        rng = random.Random(73)
        for web in EDGES[::3] + many_webs(73, 12):
            for strengths in strengths_for(web, rng):
                kept = list(strengths)
                for many in (0, 2, sum(strengths)):
                    self.assert_own(lambda: splits_or_thick(web, strengths, many))
                    told = splits_or_thick(web, strengths, many)
                    self.assertEqual(splits_or_thick(web, tuple(strengths), many), told)
                    self.assertEqual(strengths, kept)
        web, strengths = made_web(2, [(0, 1)]), [3]
        told = splits_or_thick(web, strengths, 3)
        strengths[0] = 4
        self.assertEqual(told, ("splits", [[0], [3]]))
        self.assertEqual(splits_or_thick(web, strengths, 3), ("thick", [0, 1]))


class FewestForTest(Splits):
    def test_strengths_of_all_kinds(self):
        rng = random.Random(74)
        for web in EDGES + many_webs(74, 150):
            for strengths in strengths_for(web, rng):
                self.assert_fewest(web, strengths)

    def test_against_all_sets_of_places(self):
        rng = random.Random(75)
        for web in EDGES[:6] + many_webs(75, 80, 6):
            for strengths in strengths_for(web, rng):
                self.assertEqual(self.assert_fewest(web, strengths), wanted(web, strengths))

    def test_many_times_as_strong(self):
        rng = random.Random(76)
        for web in many_webs(76, 60):
            # Strengths of which places want a whole number of times as many grow just so.
            whole = [rng.randint(0, 3) * 840 for _ in web[1]]
            few = self.assert_fewest(web, whole)
            for times in (2, 10, GREAT):
                self.assertEqual(self.assert_fewest(web, [one * times for one in whole]), few * times)
            small = [one // 840 for one in whole]
            few = self.assert_fewest(web, small)
            for times in (2, 10, GREAT):
                grown = self.assert_fewest(web, [one * times for one in small])
                self.assertLessEqual(grown, few * times)
                self.assertGreater(grown, (few - 1) * times)

    def test_no_strength(self):
        self.assertEqual(fewest_for(made_web(1, []), []), (0, [[]], None))
        self.assertEqual(fewest_for(made_web(3, [(0, 1), (1, 2)]), (0, 0)), (0, [[0, 0]] * 3, None))
        self.assertEqual(fewest_for(made_web(2, [(0, 1)]), [5]), (5, [[0], [5]], [0, 1]))

    def test_refusals(self):
        for web in (made_web(3, [(0, 1), (1, 2)]), made_web(3, []), made_web(1, [])):
            fewest_for(web, [1] * len(web[1]))
            for strengths in odd_strengths(len(web[1]), odd_things()):
                self.assert_refused(NoStrengths, fewest_for, web, strengths)

    def test_what_is_told_and_handed_in(self):
        rng = random.Random(77)
        for web in EDGES[::3] + many_webs(77, 12):
            for strengths in strengths_for(web, rng):
                kept = list(strengths)
                self.assert_own(lambda: fewest_for(web, strengths))
                self.assertEqual(fewest_for(web, tuple(strengths)), fewest_for(web, strengths))
                self.assertEqual(strengths, kept)
        web, strengths = made_web(2, [(0, 1)]), [3]
        told = fewest_for(web, strengths)
        strengths[0] = 4
        self.assertEqual(told, (3, [[0], [3]], [0, 1]))
        self.assertEqual(fewest_for(web, strengths), (4, [[0], [4]], [0, 1]))
