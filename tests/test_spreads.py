"""treesapart.spreads: spreads out of a root by strengths, or places; the least use of a lane."""

import random

from tests.papers import Papers, are_spread, entered, leading_in, least_in, made_of, sets_of
from tests.things import odd_from, odd_things
from tests.webs import GREAT, LANE_EDGES, any_spread, many_lane_webs, odd_strengths, strengths_for
from treesapart.errors import NoCount, NoPlace, NoSpreads, NoStrengths, NoSuch
from treesapart.flows import flows_or_places
from treesapart.lanes import made_lanes
from treesapart.spreads import is_spread, lane_use, spreads_or_places

ODD_COUNTS = odd_from(1, 13) + [30]
SOME = (made_lanes(3, [(0, 1), (1, 2)]), made_lanes(2, [(0, 1)]), made_lanes(3, []), made_lanes(1, []))


def few_strengths(lane_web, rng):
    """Strengths of all kinds, and some of which there are about twelve spreads."""
    many = [rng.randint(0, 12) for _ in lane_web[1]]
    return strengths_for(lane_web, rng) + [many, [rng.randint(4, 14) for _ in lane_web[1]]]


class IsSpreadTest(Papers):
    def assert_spread(self, lane_web, root, numbers, right):
        self.assertIs(are_spread(lane_web, root, numbers), right)
        self.assertIs(is_spread(lane_web, root, numbers), right, (lane_web, root, numbers))
        self.assertIs(is_spread(lane_web, root, tuple(numbers)), right)

    def test_every_choice_of_a_few_lanes(self):
        rng = random.Random(131)
        found = []
        for lane_web in many_lane_webs(131, 40, 5):
            few = made_lanes(lane_web[0], rng.sample(lane_web[1], min(8, len(lane_web[1]))))
            for numbers in sets_of(range(len(few[1])), 0):
                for root in range(few[0]):
                    right = are_spread(few, root, numbers)
                    self.assert_spread(few, root, numbers, right)
                    found.append(right)
        self.assertGreater(found.count(True), 300)

    def test_a_lane_put_in_taken_out_or_exchanged(self):
        rng = random.Random(132)
        for _ in range(60):
            many = rng.randint(2, 9)
            root, *others = rng.sample(range(many), many)
            lanes = any_spread(rng, root, others) + [tuple(rng.sample(range(many), 2)) for _ in range(12)]
            lane_web = made_lanes(many, lanes)
            spread = list(range(many - 1))
            self.assert_spread(lane_web, root, spread, True)
            for place in others:
                self.assert_spread(lane_web, place, spread, False)
            for at in spread:
                left = [number for number in spread if number != at]
                self.assert_spread(lane_web, root, left, False)
                for number in range(many - 1, len(lanes)):
                    exchanged = left + [number]
                    self.assert_spread(lane_web, root, exchanged, are_spread(lane_web, root, exchanged))
                    self.assert_spread(lane_web, root, spread + [number], False)

    def test_a_ring_apart_from_the_root(self):
        # To each place but the root just one lane leads, yet from the root one comes to some of them only.
        self.assert_spread(made_lanes(3, [(1, 2), (2, 1)]), 0, [0, 1], False)
        self.assert_spread(made_lanes(5, [(0, 1), (2, 3), (3, 4), (4, 2)]), 0, [0, 1, 2, 3], False)
        self.assert_spread(made_lanes(5, [(0, 1), (2, 3), (3, 4), (1, 2)]), 0, [0, 1, 2, 3], True)

    def test_lanes_that_lead_the_wrong_way(self):
        self.assert_spread(made_lanes(3, [(1, 0), (1, 2)]), 0, [0, 1], False)
        self.assert_spread(made_lanes(3, [(1, 0), (1, 2)]), 1, [0, 1], True)
        self.assert_spread(made_lanes(3, [(0, 2), (1, 2)]), 0, [0, 1], False)

    def test_one_place_and_no_lanes(self):
        self.assert_spread(made_lanes(1, []), 0, [], True)
        self.assert_spread(made_lanes(2, [(0, 1)]), 0, [], False)
        self.assert_spread(made_lanes(2, [(0, 1)]), 0, [0], True)
        self.assert_spread(made_lanes(2, [(0, 1)]), 1, [0], False)

    def test_what_is_handed_in_stays(self):
        lane_web, numbers = made_lanes(3, [(0, 1), (1, 2)]), [0, 1]
        self.assertIs(is_spread(lane_web, 0, numbers), True)
        self.assertEqual(numbers, [0, 1])
        numbers.pop()
        self.assertIs(is_spread(lane_web, 0, numbers), False)


class SpreadsOrPlacesTest(Papers):
    def assert_answer(self, lane_web, strengths, root, k):
        """Go over the spreads, or the places; whether there are spreads."""
        told = spreads_or_places(lane_web, strengths, root, k)
        self.assertIs(type(told), tuple)
        self.assertEqual(len(told), 2)
        if told[0] == "spreads":
            self.assert_spreads(lane_web, strengths, root, k, told[1])
        else:
            self.assertEqual(told[0], "places")
            self.assert_too_little(lane_web, strengths, root, k, told[1])
        return told[0] == "spreads"

    def test_strengths_of_all_kinds(self):
        rng = random.Random(133)
        found = []
        for lane_web in LANE_EDGES + many_lane_webs(133, 80):
            for strengths in few_strengths(lane_web, rng):
                root = rng.randrange(lane_web[0])
                for k in (1, rng.randint(2, 5), rng.randint(6, 11), 12):
                    there = self.assert_answer(lane_web, strengths, root, k)
                    self.assertIs(there, flows_or_places(lane_web, strengths, root, k)[0] == "flows")
                    found.append(there)
        self.assertGreater(min(found.count(True), found.count(False)), 300)

    def test_against_all_sets_of_places(self):
        rng = random.Random(134)
        found = []
        for lane_web in LANE_EDGES[1:10] + many_lane_webs(134, 60, 5):
            for strengths in few_strengths(lane_web, rng) if lane_web[0] > 1 else []:
                root = rng.randrange(lane_web[0])
                most = least_in(lane_web, strengths, root)
                for k in range(max(1, min(12, most) - 1), min(12, most + 1) + 1):
                    self.assertIs(self.assert_answer(lane_web, strengths, root, k), k <= most)
                found.append(min(most, 13))
        self.assertEqual(sorted(set(found)), list(range(14)))

    def test_a_lane_that_must_be_spared(self):
        # The first lanes that one meets are wanted by the other spread.
        lane_web = made_lanes(3, [(0, 1), (1, 2), (0, 2), (2, 1)])
        self.assertEqual(spreads_or_places(lane_web, [1] * 4, 0, 2)[0], "spreads")
        self.assertTrue(self.assert_answer(lane_web, [1] * 4, 0, 2))
        self.assertTrue(self.assert_answer(lane_web, [12, 12, 1, 1], 0, 12))
        self.assertFalse(self.assert_answer(lane_web, [1, 0, 1, 1], 0, 2))
        self.assertFalse(self.assert_answer(lane_web, [GREAT] * 4, 1, 1))

    def test_one_spread_as_often_as_it_is_strong(self):
        lane_web = made_lanes(3, [(2, 0), (0, 1), (1, 2)])
        for k in range(1, 13):
            for strength in (k, k + 1, GREAT):
                told = spreads_or_places(lane_web, [strength] * 3, 2, k)
                self.assertEqual(told, ("spreads", [[0, 1]] * k))
            self.assertFalse(self.assert_answer(lane_web, [k, k - 1, k], 2, k))

    def test_one_place(self):
        for k in range(1, 13):
            told = ("spreads", [[] for _ in range(k)])
            self.assertEqual(spreads_or_places(made_lanes(1, []), [], 0, k), told)
            self.assertEqual(spreads_or_places(made_lanes(1, []), (), 0, k), told)

    def test_refusals_and_their_order(self):
        for lane_web in SOME:
            right = [1] * len(lane_web[1])
            for strengths in odd_strengths(len(right), odd_things()):
                for root, k in ((0, 1), (9, 1), (None, None), (0, 13)):
                    self.assert_refused(NoStrengths, spreads_or_places, lane_web, strengths, root, k)
            for root in odd_from(0, lane_web[0]):
                for k in (1, 0, 13, None):
                    self.assert_refused(NoPlace, spreads_or_places, lane_web, right, root, k)
            for k in ODD_COUNTS:
                self.assert_refused(NoCount, spreads_or_places, lane_web, right, 0, k)
                self.assert_refused(NoCount, spreads_or_places, lane_web, tuple(right), lane_web[0] - 1, k)

    def test_what_is_told_and_handed_in(self):
        rng = random.Random(135)
        for lane_web in LANE_EDGES[::3] + many_lane_webs(135, 8, 6):
            for strengths in few_strengths(lane_web, rng)[1::2]:
                kept = list(strengths)
                for k in (1, 3):
                    self.assert_own(lambda: spreads_or_places(lane_web, strengths, 0, k))
                    told = spreads_or_places(lane_web, strengths, 0, k)
                    self.assertEqual(spreads_or_places(lane_web, tuple(strengths), 0, k), told)
                    self.assertEqual(strengths, kept)
        lane_web, strengths = made_lanes(2, [(0, 1), (0, 1)]), [2, 0]
        told = spreads_or_places(lane_web, strengths, 0, 2)
        strengths[:] = [0, 1]
        self.assertEqual(told, ("spreads", [[0], [0]]))
        self.assertEqual(spreads_or_places(lane_web, strengths, 0, 2), ("places", [1]))
        self.assertEqual(spreads_or_places(lane_web, strengths, 0, 1), ("spreads", [[1]]))


class LaneUseTest(Papers):
    def assert_least(self, lane_web, strengths, root, k, number):
        """Go over what is told where there are spreads; the least use."""
        told = lane_use(lane_web, strengths, root, k, number)
        self.assertIs(type(told), tuple)
        least, spreads, places = told
        self.assert_whole(least)
        times = self.assert_spreads(lane_web, strengths, root, k, spreads)
        self.assertEqual(times[number], least)
        if least:
            self.assert_without_root(lane_web, root, places)
            self.assertIn(number, entered(lane_web, places))
            weak = made_of(list(strengths), number, least)
            self.assertEqual(leading_in(lane_web, weak, places), k, (lane_web, strengths, root, k, number))
        else:
            self.assertIsNone(places)
        return least

    def assert_none(self, lane_web, strengths, root, k, number):
        """Go over what is refused where there are no spreads."""
        refusal = self.assert_refused(NoSpreads, lane_use, lane_web, strengths, root, k, number)
        self.assert_too_little(lane_web, strengths, root, k, refusal.places)

    def test_strengths_of_all_kinds(self):
        rng = random.Random(136)
        found = []
        for lane_web in LANE_EDGES + many_lane_webs(136, 80):
            for strengths in few_strengths(lane_web, rng) if lane_web[1] else []:
                number = rng.randrange(len(lane_web[1]))
                for root in {rng.randrange(lane_web[0]), lane_web[1][number][0]}:
                    most = least_in(lane_web, strengths, root)
                    for k in {1, rng.randint(2, 11), min(12, max(1, most)), 12}:
                        if k <= most:
                            found.append(self.assert_least(lane_web, strengths, root, k, number))
                        else:
                            self.assert_none(lane_web, strengths, root, k, number)
        self.assertGreater(min(found.count(0), len([least for least in found if least > 1])), 100)
        self.assertEqual(max(found), 12)

    def test_the_lane_weaker_and_stronger(self):
        rng = random.Random(137)
        found = []
        for lane_web in many_lane_webs(137, 120):
            for strengths in few_strengths(lane_web, rng)[4:] if lane_web[1] else []:
                number = rng.randrange(len(lane_web[1]))
                root = lane_web[1][number][0]
                k = min(12, least_in(lane_web, strengths, root))
                if k:
                    least = self.assert_least(lane_web, strengths, root, k, number)
                    weak = made_of(strengths, number, least)
                    self.assertEqual(self.assert_least(lane_web, weak, root, k, number), least)
                    strong = made_of(strengths, number, strengths[number] + GREAT)
                    self.assertEqual(self.assert_least(lane_web, strong, root, k, number), least)
                    if least:
                        self.assert_none(lane_web, made_of(strengths, number, least - 1), root, k, number)
                    found.append(least)
        self.assertGreater(len([least for least in found if least]), 30)

    def test_a_lane_to_the_root(self):
        lane_web = made_lanes(3, [(1, 0), (0, 1), (1, 2), (2, 0)])
        for number in (0, 3):
            for k in (1, 5, 12):
                told = lane_use(lane_web, [GREAT, k, k, 0], 0, k, number)
                self.assertEqual(told, (0, [[1, 2]] * k, None))
                self.assertEqual(self.assert_least(lane_web, [k, k, k, k], 0, k, number), 0)

    def test_a_lane_that_all_must_use(self):
        lane_web = made_lanes(4, [(0, 1), (1, 2), (2, 3), (3, 2)])
        for k in (1, 2, 12):
            told = lane_use(lane_web, [k, GREAT, GREAT, 5], 0, k, 1)
            self.assertEqual(told, (k, [[0, 1, 2]] * k, [2, 3]))
            self.assertEqual(self.assert_least(lane_web, [k] * 4, 0, k, 3), 0)
        lane_web = made_lanes(2, [(0, 1), (0, 1)])
        self.assertEqual(self.assert_least(lane_web, [GREAT, 4], 0, 12, 0), 8)
        self.assertEqual(self.assert_least(lane_web, [GREAT, 4], 0, 12, 1), 0)
        self.assertEqual(self.assert_least(lane_web, [8, 4], 0, 12, 1), 4)

    def test_refusals_and_their_order(self):
        for lane_web in SOME:
            right = [1] * len(lane_web[1])
            for strengths in odd_strengths(len(right), odd_things()):
                for root, k, number in ((0, 1, 0), (9, 1, 0), (0, None, 0), (0, 1, -1), (None, 0, True)):
                    self.assert_refused(NoStrengths, lane_use, lane_web, strengths, root, k, number)
            for root in odd_from(0, lane_web[0]):
                for k, number in ((1, 0), (0, 0), (1, -1), (None, None)):
                    self.assert_refused(NoPlace, lane_use, lane_web, right, root, k, number)
            for k in ODD_COUNTS:
                for number in (0, None, len(right)):
                    self.assert_refused(NoCount, lane_use, lane_web, right, 0, k, number)
            for number in odd_from(0, len(right)):
                # There are no two spreads, but that is refused behind the number.
                for k in (1, 2):
                    self.assert_refused(NoSuch, lane_use, lane_web, right, 0, k, number)
                    self.assert_refused(NoSuch, lane_use, lane_web, tuple(right), 0, k, number)

    def test_a_number_that_true_and_false_are_like(self):
        lane_web = made_lanes(2, [(0, 1), (0, 1)])
        for number in (0, 1):
            self.assertEqual(lane_use(lane_web, [1, 1], 0, 1, number)[0], 0)
            self.assert_refused(NoSuch, lane_use, lane_web, [1, 1], 0, 1, bool(number))
            self.assert_refused(NoCount, lane_use, lane_web, [1, 1], 0, True, number)
            self.assert_refused(NoPlace, lane_use, lane_web, [1, 1], False, 1, number)
            self.assert_refused(NoStrengths, lane_use, lane_web, [1, bool(number)], 0, 1, number)

    def test_what_is_told_and_handed_in(self):
        rng = random.Random(138)
        for lane_web in LANE_EDGES[3::3] + many_lane_webs(138, 12, 6):
            for strengths in few_strengths(lane_web, rng)[1::2] if lane_web[1] else []:
                kept, root = list(strengths), lane_web[1][0][0]
                most = min(11, least_in(lane_web, strengths, root))
                if most:
                    self.assert_own(lambda: lane_use(lane_web, strengths, root, most, 0))
                    told = lane_use(lane_web, strengths, root, most, 0)
                    self.assertEqual(lane_use(lane_web, tuple(strengths), root, most, 0), told)
                if most < 11:
                    self.assert_own(lambda: self.assert_refused(
                        NoSpreads, lane_use, lane_web, strengths, root, most + 1, 0).places)
                self.assertEqual(strengths, kept)
        lane_web, strengths = made_lanes(2, [(0, 1), (0, 1)]), [3, 1]
        told = lane_use(lane_web, strengths, 0, 3, 0)
        strengths[:] = [0, 5]
        self.assertEqual((told[0], sorted(told[1]), told[2]), (2, [[0], [0], [1]], [1]))
        self.assertEqual(lane_use(lane_web, strengths, 0, 3, 0), (0, [[1], [1], [1]], None))
