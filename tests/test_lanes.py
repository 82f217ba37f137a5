"""treesapart.lanes: lane webs, and the lanes that enter some places."""

import copy
import itertools

from tests.papers import Papers, entered, sets_of
from tests.things import Touchy, odd_from, odd_things
from tests.webs import LANE_EDGES, many_lane_webs
from treesapart.errors import NoTie, NoWeb, TooMany
from treesapart.lanes import entering, made_lanes

NO_PLACES = odd_from(1, 10)


class MadeLanesTest(Papers):
    def assert_lanes(self, lane_web, places, lanes):
        self.assertEqual(lane_web, (places, lanes))
        self.assertIs(type(lane_web), tuple)
        self.assert_whole(lane_web[0])
        self.assertIs(type(lane_web[1]), tuple)
        for lane in lane_web[1]:
            self.assertIs(type(lane), tuple)

    def test_all_numbers_of_places_without_lanes(self):
        for places in range(1, 10):
            self.assert_lanes(made_lanes(places, []), places, ())
            self.assert_lanes(made_lanes(places, ()), places, ())

    def test_each_lane_stays_as_it_is(self):
        for places in range(2, 10):
            for lane in itertools.permutations(range(places), 2):
                self.assert_lanes(made_lanes(places, [lane]), places, (lane,))
                self.assert_lanes(made_lanes(places, [lane, lane[::-1]]), places, (lane, lane[::-1]))

    def test_lanes_stand_as_the_list_has_them(self):
        lanes = [(3, 1), (0, 2), (1, 3), (2, 1), (0, 1), (3, 0), (0, 3), (3, 1)]
        self.assert_lanes(made_lanes(4, lanes), 4, tuple(lanes))
        self.assert_lanes(made_lanes(4, tuple(lanes)), 4, tuple(lanes))
        self.assert_lanes(made_lanes(4, lanes[::-1]), 4, tuple(lanes[::-1]))

    def test_sixty_lanes(self):
        pairs = list(itertools.permutations(range(9), 2))[:60]
        for many in (30, 31, 59, 60):
            self.assert_lanes(made_lanes(9, pairs[:many]), 9, tuple(pairs[:many]))
            self.assert_lanes(made_lanes(9, tuple(pairs[:many])), 9, tuple(pairs[:many]))
            self.assert_lanes(made_lanes(2, [(1, 0)] * many), 2, ((1, 0),) * many)

    def test_what_is_handed_in_stays_and_is_not_held_on_to(self):
        lanes = [(2, 0), (1, 2)]
        lane_web = made_lanes(3, lanes)
        self.assertEqual(lanes, [(2, 0), (1, 2)])
        lanes[0] = (0, 1)
        lanes.append((1, 0))
        self.assertEqual(lane_web, (3, ((2, 0), (1, 2))))
        self.assertEqual(made_lanes(3, lanes), (3, ((0, 1), (1, 2), (1, 0))))
        self.assertEqual(made_lanes(3, lanes), made_lanes(3, tuple(lanes)))


class RefusedLanesTest(Papers):
    def assert_no_tie(self, places, lanes, at):
        self.assertEqual(self.assert_refused(NoTie, made_lanes, places, lanes).at, at)
        self.assertEqual(self.assert_refused(NoTie, made_lanes, places, tuple(lanes)).at, at)

    def test_no_web_goes_first(self):
        for places in NO_PLACES:
            for lanes in ([], [(0, 1)], [(0, 1)] * 61, [None] * 61, [None], [Touchy()]):
                self.assert_refused(NoWeb, made_lanes, places, lanes)
                self.assert_refused(NoWeb, made_lanes, places, tuple(lanes))

    def test_too_many_goes_before_no_tie(self):
        for many in (61, 62, 500):
            self.assert_refused(TooMany, made_lanes, 2, [(0, 1)] * many)
            self.assert_refused(TooMany, made_lanes, 9, ((8, 0),) * many)
        for thing in odd_things():
            self.assert_refused(TooMany, made_lanes, 3, [thing] + [(0, 1)] * 60)
            self.assert_refused(TooMany, made_lanes, 3, [(0, 1)] * 60 + [thing])
        self.assert_refused(TooMany, made_lanes, 1, [(0, 1)] * 61)

    def test_no_tie_of_anything(self):
        for thing in odd_things():
            self.assert_no_tie(3, [thing], 0)
            self.assert_no_tie(3, [(0, 1), (2, 0), thing, (0, 1)], 2)
            self.assert_no_tie(3, [(2, 0), (thing, 2)], 1)
            self.assert_no_tie(3, [(2, 0), (2, thing)], 1)
        for lane in ([0, 1], (0, 0), (2, 2), (0, 3), (3, 0), (-1, 0), (0, -1), (True, 0), (0, True), (2, False),
                     (0, 1, 2), (10 ** 59, 0), (0, -10 ** 59), ("0", "1"), ((0, 1),), ((0, 1), (1, 2))):
            self.assert_no_tie(3, [lane], 0)
            self.assert_no_tie(3, [(2, 1)] * 5 + [lane, None], 5)

    def test_the_first_one_is_told(self):
        for at in range(60):
            lanes = [(1, 0)] * 60
            lanes[at] = (1, 1)
            self.assert_no_tie(2, lanes, at)
        self.assert_no_tie(3, [None] * 60, 0)
        self.assert_no_tie(1, [(0, 1)], 0)

    def test_what_is_refused_stays(self):
        for kind, places, lanes in ((NoTie, 3, [(2, 0), (1, 0), [1, 0], None]),
                                    (TooMany, 3, [(2, 0)] * 61), (NoWeb, 10, [(2, 0), (1, 0)])):
            kept = copy.deepcopy(lanes)
            self.assert_refused(kind, made_lanes, places, lanes)
            self.assertEqual(lanes, kept)


class EnteringTest(Papers):
    def test_ordinary_ones(self):
        lane_web = made_lanes(4, [(0, 1), (1, 0), (1, 2), (3, 2), (0, 1), (2, 3)])
        self.assertEqual(entering(lane_web, [1]), [0, 4])
        self.assertEqual(entering(lane_web, [0]), [1])
        self.assertEqual(entering(lane_web, [0, 1]), [])
        self.assertEqual(entering(lane_web, [2, 3]), [2])
        self.assertEqual(entering(lane_web, (1, 2)), [0, 3, 4])

    def test_no_places_and_all_places(self):
        for lane_web in LANE_EDGES + many_lane_webs(111, 20):
            self.assertEqual(entering(lane_web, []), [])
            self.assertEqual(entering(lane_web, ()), [])
            self.assertEqual(entering(lane_web, list(range(lane_web[0]))), [])
            self.assertEqual(entering(lane_web, tuple(range(lane_web[0]))), [])

    def test_every_choice_of_places(self):
        for lane_web in LANE_EDGES + many_lane_webs(112, 30):
            for places in sets_of(range(lane_web[0]), 0):
                told = entering(lane_web, places)
                self.assert_rising(told, len(lane_web[1]))
                self.assertEqual(told, entered(lane_web, places))
                self.assertEqual(entering(lane_web, tuple(places)), told)

    def test_what_is_told_and_handed_in(self):
        lane_web, places = made_lanes(3, [(0, 1), (1, 2), (0, 1)]), [1]
        self.assert_own(lambda: entering(lane_web, places))
        self.assert_own(lambda: entering(lane_web, []))
        told = entering(lane_web, places)
        self.assertEqual(places, [1])
        places[:] = [2]
        self.assertEqual((told, entering(lane_web, places)), ([0, 2], [1]))
