"""treesapart.rings: rings, woods, trees and ways, each walked place by place."""

import itertools
import random

from tests.papers import Papers, pieces, ties_of, without_ring
from tests.webs import EDGES, many_webs
from treesapart.layout import made_web
from treesapart.rings import is_tree, is_wood, ring_in, way_by

WEBS = EDGES + many_webs(51, 240)


def picks(web, seed, count=6):
    """Rising lists of ties of a web: none, all, some, and some without a ring."""
    rng = random.Random(seed)
    every = list(range(len(web[1])))
    found = [[], every]
    for _ in range(count):
        found.append(sorted(rng.sample(every, rng.randint(0, len(every)))))
        found.append(wood_of_some(web, rng.sample(every, rng.randint(0, len(every)))))
        found.append(wood_of_some(web, rng.sample(every, len(every))))
    return found


def wood_of_some(web, numbers):
    wood = []
    for number in numbers:
        if without_ring(web, wood + [number]):
            wood.append(number)
    return sorted(wood)


def walks(web, numbers, start):
    """The places to which one comes from a place along these ties, one behind another, or None."""
    gone = [start]
    for a, b in ties_of(web, numbers):
        if gone[-1] not in (a, b):
            return None
        gone.append(b if gone[-1] == a else a)
    return gone


class RingInTest(Papers):
    def assert_ring(self, web, numbers, ring):
        self.assertIs(type(ring), list)
        self.assert_whole(*ring)
        self.assertGreater(len(ring), 1)
        self.assertEqual(len(ring), len(set(ring)))
        self.assertLessEqual(set(ring), set(numbers))
        rounds = [walks(web, ring, start) for start in web[1][ring[0]]]
        rounds = [gone for gone in rounds if gone is not None and gone[0] == gone[-1]]
        self.assertTrue(any(len(set(gone)) == len(ring) for gone in rounds), (web, ring))

    def test_picks_of_many_webs(self):
        for at, web in enumerate(WEBS):
            for numbers in picks(web, at):
                ring = ring_in(web, numbers)
                self.assertEqual(ring, ring_in(web, tuple(numbers)))
                if without_ring(web, numbers):
                    self.assertIsNone(ring)
                else:
                    self.assert_ring(web, numbers, ring)

    def test_two_ties_with_the_same_ends(self):
        web = made_web(3, [(0, 1), (1, 2), (1, 0)])
        self.assertIsNone(ring_in(web, [0, 1]))
        self.assertIsNone(ring_in(web, [1, 2]))
        self.assertEqual(sorted(ring_in(web, [0, 2])), [0, 2])
        self.assertEqual(sorted(ring_in(web, [0, 1, 2])), [0, 2])

    def test_rings_of_all_sizes_in_any_order(self):
        rng = random.Random(7)
        for places in range(2, 10):
            for _ in range(10):
                order = rng.sample(range(places), places)
                ties = [(order[at], order[at - 1]) for at in range(places)]
                web = made_web(places, rng.sample(ties, places))
                every = list(range(places))
                self.assert_ring(web, every, ring_in(web, every))
                self.assertEqual(sorted(ring_in(web, every)), every)
                for gone in every:
                    self.assertIsNone(ring_in(web, [number for number in every if number != gone]))

    def test_a_ring_with_ties_hanging_on_it(self):
        web = made_web(7, [(0, 4), (4, 5), (5, 6), (6, 4), (1, 5), (2, 6), (2, 3)])
        ring = ring_in(web, list(range(7)))
        self.assert_ring(web, range(7), ring)
        self.assertEqual(sorted(ring), [1, 2, 3])

    def test_told_lists_are_the_askers_own(self):
        for at, web in enumerate(WEBS[::5]):
            for numbers in picks(web, at, 2):
                kept = list(numbers)
                self.assert_own(lambda: ring_in(web, numbers))
                self.assertEqual(numbers, kept)

    def test_what_is_changed_behind_the_call(self):
        web, numbers = made_web(3, [(0, 1), (1, 2), (0, 2)]), [0, 1, 2]
        ring = ring_in(web, numbers)
        numbers.pop()
        self.assertEqual(sorted(ring), [0, 1, 2])
        self.assertIsNone(ring_in(web, numbers))


class IsWoodIsTreeTest(Papers):
    def assert_kinds(self, web, numbers):
        wood = without_ring(web, numbers)
        for form in (list(numbers), tuple(numbers)):
            self.assertIs(is_wood(web, form), wood)
            self.assertIs(is_tree(web, form), wood and len(numbers) == web[0] - 1)

    def test_picks_of_many_webs(self):
        for at, web in enumerate(WEBS):
            for numbers in picks(web, at):
                self.assert_kinds(web, numbers)

    def test_every_pick_of_small_webs(self):
        for ties in ([(0, 1), (1, 2), (0, 2), (2, 3), (1, 3), (0, 3)], [(0, 1)] * 3 + [(1, 2)] * 3, []):
            for places in (4, 5):
                web = made_web(places, ties)
                for many in range(len(ties) + 1):
                    for numbers in itertools.combinations(range(len(ties)), many):
                        self.assert_kinds(web, numbers)

    def test_as_many_ties_as_a_tree_with_a_ring(self):
        web = made_web(4, [(0, 1), (1, 2), (0, 2), (2, 3)])
        self.assertIs(is_tree(web, [0, 1, 2]), False)
        self.assertIs(is_wood(web, [0, 1, 2]), False)
        self.assertIs(is_tree(web, [0, 1, 3]), True)
        self.assertIs(is_tree(web, [0, 3]), False)
        self.assertIs(is_wood(web, [0, 3]), True)

    def test_one_place_and_no_ties(self):
        self.assertIs(is_wood(made_web(1, []), []), True)
        self.assertIs(is_tree(made_web(1, []), ()), True)
        self.assertIs(is_wood(made_web(2, []), []), True)
        self.assertIs(is_tree(made_web(2, []), []), False)

    def test_a_tree_holds_all_places_together(self):
        for at, web in enumerate(WEBS):
            for numbers in picks(web, at, 2):
                if is_tree(web, numbers):
                    self.assertEqual(len(pieces(range(web[0]), ties_of(web, numbers))), 1)


class WayByTest(Papers):
    def assert_way(self, web, numbers, a, b, way):
        joined = any({a, b} <= piece for piece in pieces(range(web[0]), ties_of(web, numbers)))
        if not joined:
            self.assertIsNone(way)
            return
        self.assertIs(type(way), list)
        self.assert_whole(*way)
        self.assertLessEqual(set(way), set(numbers))
        self.assertEqual(len(way), len(set(way)))
        gone = walks(web, way, a)
        self.assertIsNotNone(gone, (web, numbers, a, b, way))
        self.assertEqual(gone[-1], b)
        self.assertEqual(len(gone), len(set(gone)))

    def test_all_places_of_many_woods(self):
        for at, web in enumerate(WEBS):
            for numbers in picks(web, at, 1):
                if without_ring(web, numbers):
                    for a, b in itertools.product(range(web[0]), repeat=2):
                        way = way_by(web, numbers, a, b)
                        self.assert_way(web, numbers, a, b, way)
                        self.assertEqual(way, way_by(web, tuple(numbers), a, b))
                        if way is not None:
                            self.assertEqual(way_by(web, numbers, b, a), way[::-1])

    def test_from_a_place_to_itself(self):
        for web in EDGES:
            for place in range(web[0]):
                self.assertEqual(way_by(web, [], place, place), [])
                self.assertEqual(way_by(web, wood_of_some(web, range(len(web[1]))), place, place), [])

    def test_none_leads_there(self):
        web = made_web(4, [(0, 1), (2, 3), (1, 2)])
        self.assertIsNone(way_by(web, [0, 1], 0, 3))
        self.assertIsNone(way_by(web, [], 0, 1))
        self.assertEqual(way_by(web, [0, 1, 2], 0, 3), [0, 2, 1])
        self.assertEqual(way_by(web, [0, 1, 2], 3, 1), [1, 2])

    def test_told_lists_are_the_askers_own(self):
        web, numbers = made_web(5, [(0, 1), (2, 3), (1, 2)]), [0, 1, 2]
        for a, b in itertools.product(range(5), repeat=2):
            self.assert_own(lambda: way_by(web, numbers, a, b))
        self.assertEqual(numbers, [0, 1, 2])
        way = way_by(web, numbers, 0, 3)
        numbers[:] = [0]
        self.assertEqual(way, [0, 2, 1])
        self.assertIsNone(way_by(web, numbers, 0, 3))
