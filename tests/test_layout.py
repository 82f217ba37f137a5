"""treesapart.layout: webs, and what no web is made of."""

import copy
import itertools
import unittest

from tests.things import Touchy, odd_things
from treesapart.errors import NoTie, NoWeb, TooMany
from treesapart.layout import made_web

NO_PLACES = [0, 10, 11, 30, -1, -9, 10 ** 59, -10 ** 59] + odd_things()


class Told(unittest.TestCase):
    def told(self, kind, places, ties):
        """The refusal of these, which is of this very kind."""
        with self.assertRaises(kind) as caught:
            made_web(places, ties)
        self.assertIs(type(caught.exception), kind)
        return caught.exception

    def assert_no_tie(self, places, ties, at):
        self.assertEqual(self.told(NoTie, places, ties).at, at)
        self.assertEqual(self.told(NoTie, places, tuple(ties)).at, at)


class MadeWebTest(Told):
    def assert_web(self, web, places, ties):
        self.assertEqual(web, (places, ties))
        self.assertIs(type(web), tuple)
        self.assertIs(type(web[0]), int)
        self.assertIs(type(web[1]), tuple)
        for tie in web[1]:
            self.assertIs(type(tie), tuple)

    def test_all_numbers_of_places_without_ties(self):
        for places in range(1, 10):
            self.assert_web(made_web(places, []), places, ())
            self.assert_web(made_web(places, ()), places, ())

    def test_each_pair_either_place_first(self):
        for places in range(2, 10):
            for a, b in itertools.combinations(range(places), 2):
                self.assert_web(made_web(places, [(a, b)]), places, ((a, b),))
                self.assert_web(made_web(places, [(b, a)]), places, ((a, b),))

    def test_ties_stand_as_the_list_has_them(self):
        ties = [(3, 1), (0, 2), (1, 3), (2, 1), (0, 1), (3, 0)]
        wanted = ((1, 3), (0, 2), (1, 3), (1, 2), (0, 1), (0, 3))
        self.assert_web(made_web(4, ties), 4, wanted)
        self.assert_web(made_web(4, tuple(ties)), 4, wanted)
        self.assert_web(made_web(4, ties[::-1]), 4, wanted[::-1])

    def test_several_ties_with_the_same_ends(self):
        self.assert_web(made_web(2, [(0, 1), (1, 0), (0, 1)]), 2, ((0, 1),) * 3)
        self.assert_web(made_web(9, [(8, 0)] * 30), 9, ((0, 8),) * 30)

    def test_thirty_ties(self):
        pairs = list(itertools.combinations(range(9), 2))[:30]
        for many in (28, 29, 30):
            self.assert_web(made_web(9, pairs[:many]), 9, tuple(pairs[:many]))
            self.assert_web(made_web(9, tuple(pairs[:many])), 9, tuple(pairs[:many]))

    def test_what_is_handed_in_stays(self):
        ties = [(2, 0), (1, 2), (1, 0)]
        made_web(3, ties)
        self.assertEqual(ties, [(2, 0), (1, 2), (1, 0)])

    def test_what_is_handed_in_is_not_held_on_to(self):
        ties = [(2, 0), (1, 2)]
        web = made_web(3, ties)
        ties[0] = (0, 1)
        ties.append((1, 0))
        self.assertEqual(web, (3, ((0, 2), (1, 2))))
        self.assertEqual(made_web(3, ties), (3, ((0, 1), (1, 2), (0, 1))))

    def test_asked_again_the_same_is_told(self):
        ties = [(3, 1), (0, 2), (1, 3)]
        self.assertEqual(made_web(4, ties), made_web(4, list(ties)))
        self.assertEqual(made_web(5, ties)[0], 5)
        self.assertEqual(made_web(4, ties)[0], 4)


class NoWebTest(Told):
    def test_places_of_anything(self):
        for at, places in enumerate(NO_PLACES):
            with self.subTest(at):
                self.told(NoWeb, places, [])
                self.told(NoWeb, places, [(0, 1)])

    def test_it_comes_before_the_others(self):
        for at, places in enumerate(NO_PLACES):
            with self.subTest(at):
                self.told(NoWeb, places, [(0, 1)] * 31)
                self.told(NoWeb, places, [None] * 31)
                self.told(NoWeb, places, [None])
                self.told(NoWeb, places, [Touchy()])


class TooManyTest(Told):
    def test_more_than_thirty(self):
        for many in (31, 32, 60, 61, 500):
            self.told(TooMany, 2, [(0, 1)] * many)
            self.told(TooMany, 9, ((8, 0),) * many)

    def test_it_comes_before_no_tie(self):
        for thing in odd_things():
            self.told(TooMany, 3, [thing] + [(0, 1)] * 30)
            self.told(TooMany, 3, [(0, 1)] * 30 + [thing])
            self.told(TooMany, 3, [thing] * 31)
        self.told(TooMany, 1, [(0, 1)] * 31)


class NoTieTest(Told):
    def test_things_of_any_kind(self):
        for at, thing in enumerate(odd_things()):
            with self.subTest(at):
                self.assert_no_tie(3, [thing], 0)
                self.assert_no_tie(3, [(0, 1), (2, 0), thing, (0, 1)], 2)

    def test_things_of_any_kind_for_a_place(self):
        for at, thing in enumerate(odd_things()):
            with self.subTest(at):
                self.assert_no_tie(3, [(2, 0), (thing, 2)], 1)
                self.assert_no_tie(3, [(2, 0), (2, thing)], 1)
                self.assert_no_tie(3, [(2, 0), (thing, thing)], 1)

    def test_pairs_that_are_no_ties(self):
        odd = [(0, 0), (2, 2), (0, 3), (3, 0), (2, 9), (-1, 0), (0, -1), (-2, -1), (3, 4),
               (True, 2), (2, True), (False, 1), (1, False), (True, False), (0, True), (True, 0),
               ("0", 1), (0, "1"), ("0", "1"), (None, None), (0, None), ([0], 1), (0, [1]),
               ((0,), (1,)), ((0, 1), 2), (0, (1, 2)), ((0, 1), (1, 2)), ({}, 1), (0, {1}),
               (10 ** 59, 0), (0, -10 ** 59), (b"0", b"1"), (0, range(1))]
        for tie in odd:
            with self.subTest(tie):
                self.assert_no_tie(3, [tie], 0)
                self.assert_no_tie(3, [(1, 2)] * 5 + [tie], 5)

    def test_tuples_of_another_length(self):
        for tie in ((), (0,), (0, 1, 2), (0, 1, 0), (0, 1, None), (0, 1, 2, 0), ((0, 1),)):
            with self.subTest(tie):
                self.assert_no_tie(3, [(0, 1), tie], 1)

    def test_a_list_of_two_is_none(self):
        self.assert_no_tie(3, [[0, 1]], 0)
        self.assert_no_tie(3, [(0, 1), [1, 0]], 1)

    def test_the_first_one_is_told(self):
        self.assert_no_tie(3, [(0, 1), None, (1, 1), [0, 1]], 1)
        self.assert_no_tie(3, [(2, 2), (0, 1), None], 0)
        self.assert_no_tie(3, [(0, 1), (1, 2), (0, 3), (1, 1), (3, 0)], 2)
        self.assert_no_tie(3, [None] * 30, 0)

    def test_each_number_up_to_thirty_ties(self):
        for at in range(30):
            ties = [(0, 1)] * 30
            ties[at] = (1, 1)
            self.assert_no_tie(2, ties, at)

    def test_a_place_beyond_for_each_number_of_places(self):
        for places in range(1, 10):
            self.assert_no_tie(places, [(0, places)], 0)
            self.assert_no_tie(places, [(places, 0)], 0)
            self.assert_no_tie(places, [(0, 9)], 0)
            self.assert_no_tie(places, [(0, 0)], 0)
            self.assert_no_tie(places, [(places - 1, places - 1)], 0)

    def test_of_one_place_there_is_no_tie(self):
        self.assert_no_tie(1, [(0, 1)], 0)
        self.assert_no_tie(1, [(0, -1)], 0)
        self.assert_no_tie(1, [(0, 0)], 0)

    def test_what_is_refused_stays(self):
        for kind, places, ties in ((NoTie, 3, [(2, 0), (1, 0), [1, 0], None]),
                                   (TooMany, 3, [(2, 0)] * 31), (NoWeb, 10, [(2, 0), (1, 0)])):
            kept = copy.deepcopy(ties)
            self.told(kind, places, ties)
            self.assertEqual(ties, kept)

    def test_asked_again_the_same_is_refused(self):
        ties = [(0, 1), None]
        self.assertEqual(self.told(NoTie, 2, ties).at, self.told(NoTie, 2, ties).at)
        ties[1] = (1, 0)
        self.assertEqual(made_web(2, ties), (2, ((0, 1), (0, 1))))
