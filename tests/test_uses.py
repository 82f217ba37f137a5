"""treesapart.uses: the least use of a tie, with a share, its splits, and a parting."""

import random

from tests.papers import Papers, crossing, made_of, most_of
from tests.things import odd_amounts, odd_from, odd_things
from tests.webs import EDGES, GREAT, many_webs, odd_strengths, strengths_for
from treesapart.errors import NoCount, NoStrengths, NoSuch, NoTrees
from treesapart.firm import used
from treesapart.layout import made_web
from treesapart.sharing import most_share, share_or_parting
from treesapart.uses import least_use


def some_ties(rng, web):
    return rng.sample(range(len(web[1])), min(2, len(web[1])))


class LeastUse(Papers):
    def assert_needed(self, web, strengths, k, number, least, parting):
        """The tie goes between the parts, and all that goes there, with its least use, is just enough."""
        self.assert_parting(web, parting)
        go = crossing(web, parting)
        self.assertIn(number, go)
        weak = made_of(list(strengths), number, least)
        self.assertEqual(sum(weak[one] for one in go), k * (len(parting) - 1), (web, strengths, k, number))

    def assert_least(self, web, strengths, k, number):
        """Go over what is told where there is a share; the least use."""
        told = least_use(web, strengths, k, number)
        self.assertIs(type(told), tuple)
        least, share, splits, parting = told
        self.assert_whole(least)
        self.assert_share(web, strengths, k, share, splits)
        self.assertEqual(share[number], least)
        if least:
            self.assert_needed(web, strengths, k, number, least, parting)
        else:
            self.assertIsNone(parting)
        return least

    def assert_none(self, web, strengths, k, number):
        """Go over what is refused where there is no share."""
        parting = self.assert_refused(NoTrees, least_use, web, strengths, k, number).parting
        self.assert_too_weak(web, strengths, parting, k)


class PapersTest(LeastUse):
    def test_strengths_of_all_kinds(self):
        rng = random.Random(91)
        found = []
        for web in EDGES + many_webs(91, 28):
            for strengths in strengths_for(web, rng) if web[0] > 1 else []:
                most = most_share(web, strengths)[0]
                for number in some_ties(rng, web):
                    for k in {0, min(1, most), most // 2, rng.randint(0, most), most}:
                        found.append(self.assert_least(web, strengths, k, number))
                    for k in (most + 1, 2 * most + 1, 10 ** 60 - 1):
                        self.assert_none(web, strengths, max(most + 1, k), number)
        self.assertGreater(min(found.count(0), found.count(1), len([one for one in found if one > GREAT])), 50)

    def test_against_all_partings(self):
        rng = random.Random(92)
        for web in many_webs(92, 40, 5):
            for strengths in strengths_for(web, rng) if web[0] > 1 else []:
                most = most_of(web, strengths)
                for number in some_ties(rng, web):
                    for k in {0, most // 2, most}:
                        self.assert_least(web, strengths, k, number)
                    self.assert_none(web, strengths, most + 1, number)

    def test_strengths_that_leave_others_no_room(self):
        # The tie stands first in the web, but the others come first where it is to be used least.
        web = made_web(3, [(0, 1), (0, 1), (1, 2), (0, 2)])
        self.assertEqual(self.assert_least(web, [9, 9, 9, 9], 4, 0), 0)
        self.assertEqual(self.assert_least(web, [9, 1, 2, 4], 3, 0), 0)
        self.assertEqual(self.assert_least(web, [9, 1, 2, 4], 5, 0), 3)
        self.assertEqual(self.assert_least(web, [9, 1, 2, 4], 6, 0), 5)
        self.assert_none(web, [9, 1, 2, 4], 7, 0)

    def test_a_bridge(self):
        web = made_web(4, [(0, 1), (0, 1), (1, 2), (2, 3), (2, 3)])
        for k in (1, 7, GREAT):
            strengths = [k] * 5
            self.assertEqual(least_use(web, strengths, k, 2)[0], k)
            self.assertEqual(least_use(web, strengths, k, 2)[3], [[0, 1], [2, 3]])
            self.assertEqual(self.assert_least(web, strengths, k, 0), 0)
            self.assertEqual(self.assert_least(web, made_of(strengths, 1, k - 1), k, 0), 1)

    def test_no_share_where_the_tie_lies_beside(self):
        # Without it there is as much too little as the tie is strong; but it does not go where it is wanted.
        web = made_web(3, [(0, 1), (0, 1), (1, 2)])
        self.assert_none(web, [2, 2, 1], 2, 0)
        self.assert_none(web, [5, 2, 0], 2, 0)
        self.assert_none(web, [5, 2, 1], 2, 1)

    def test_none_are_wanted(self):
        for web in EDGES:
            for number in range(len(web[1])):
                nothing = [0] * len(web[1])
                told = least_use(web, [GREAT] * len(web[1]), 0, number)
                self.assertEqual(told, (0, nothing, [nothing for _ in range(web[0])], None))


class AgainstOthersTest(LeastUse):
    def test_the_tie_weaker_and_stronger(self):
        rng = random.Random(93)
        for web in many_webs(93, 24):
            for strengths in strengths_for(web, rng) if web[0] > 1 else []:
                most = most_share(web, strengths)[0]
                for number in some_ties(rng, web):
                    for k in {most // 2, most}:
                        least = self.assert_least(web, strengths, k, number)
                        weak = made_of(strengths, number, least)
                        self.assertEqual(share_or_parting(web, weak, k)[0], "share")
                        self.assertEqual(self.assert_least(web, weak, k, number), least)
                        strong = made_of(strengths, number, strengths[number] + GREAT)
                        self.assertEqual(self.assert_least(web, strong, k, number), least)
                        if least:
                            weaker = made_of(strengths, number, least - 1)
                            self.assertEqual(share_or_parting(web, weaker, k)[0], "parting")
                            self.assert_none(web, weaker, k, number)

    def test_the_most_without_the_tie(self):
        rng = random.Random(94)
        for web in many_webs(94, 28):
            for strengths in strengths_for(web, rng) if web[0] > 1 else []:
                most = most_share(web, strengths)[0]
                for number in some_ties(rng, web):
                    without = most_share(web, made_of(strengths, number, 0))[0]
                    self.assertEqual(self.assert_least(web, strengths, without, number), 0)
                    if without < most:
                        self.assertGreater(self.assert_least(web, strengths, without + 1, number), 0)

    def test_of_ones_as_trees_use_it(self):
        for web in EDGES + many_webs(95, 40):
            ones = [1] * len(web[1])
            for k in (1, 2, 3):
                for number in range(0, len(web[1]), 4):
                    try:
                        kind, told = used(web, k, number)
                    except NoTrees:
                        self.assert_none(web, ones, k, number)
                    else:
                        self.assertEqual(self.assert_least(web, ones, k, number), int(kind == "tight"))

    def test_many_times_as_strong(self):
        rng = random.Random(96)
        for web in many_webs(96, 40):
            strengths = [rng.randint(0, 3) for _ in web[1]]
            k = most_share(web, strengths)[0] if web[0] > 1 else 0
            for number in some_ties(rng, web):
                least = self.assert_least(web, strengths, k, number)
                for times in (2, 10, GREAT):
                    great = [times * one for one in strengths]
                    self.assertEqual(self.assert_least(web, great, k * times, number), least * times)


class RefusalsTest(LeastUse):
    def test_refusals_and_their_order(self):
        for web in (made_web(3, [(0, 1), (1, 2)]), made_web(2, [(0, 1)]), made_web(3, []), made_web(1, [])):
            right = [1] * len(web[1])
            for strengths in odd_strengths(len(right), odd_things()):
                for k, number in ((1, 0), (None, 0), (2, -1), (-1, True)):
                    self.assert_refused(NoStrengths, least_use, web, strengths, k, number)
            for k in odd_amounts():
                for number in (0, None, len(right)):
                    self.assert_refused(NoCount, least_use, web, right, k, number)
                    self.assert_refused(NoCount, least_use, web, tuple(right), k, number)
            for number in odd_from(0, len(right)):
                # There is no share for two, but that is refused behind the number.
                for k in (0, 1, 2, GREAT):
                    self.assert_refused(NoSuch, least_use, web, right, k, number)

    def test_a_number_that_true_and_false_are_like(self):
        web = made_web(2, [(0, 1), (0, 1)])
        for number in (0, 1):
            self.assertEqual(least_use(web, [1, 1], 1, number)[0], 0)
            self.assert_refused(NoSuch, least_use, web, [1, 1], 1, bool(number))
            self.assert_refused(NoCount, least_use, web, [1, 1], bool(number), number)
            self.assert_refused(NoStrengths, least_use, web, [1, bool(number)], 1, number)

    def test_what_is_told_and_handed_in(self):
        rng = random.Random(97)
        for web in EDGES[3::3] + many_webs(97, 12):
            for strengths in strengths_for(web, rng):
                kept = list(strengths)
                for number in some_ties(rng, web)[:1]:
                    most = most_share(web, strengths)[0]
                    self.assert_own(lambda: least_use(web, strengths, most, number))
                    told = least_use(web, strengths, most, number)
                    self.assertEqual(least_use(web, tuple(strengths), most, number), told)
                    self.assert_own(
                        lambda: self.assert_refused(NoTrees, least_use, web, strengths, most + 1, number).parting)
                    self.assertEqual(strengths, kept)
        web, strengths = made_web(2, [(0, 1), (0, 1)]), [3, 1]
        told = least_use(web, strengths, 3, 0)
        strengths[:] = [0, 5]
        self.assertEqual(told, (2, [2, 1], [[0, 0], [2, 1]], [[0], [1]]))
        self.assertEqual(least_use(web, strengths, 3, 0), (0, [0, 3], [[0, 0], [0, 3]], None))
