"""treesapart.packing: trees that share no tie, or a parting; most trees."""

import random

from tests.papers import Papers, crossing, pieces
from tests.things import odd_things, partings_of
from tests.webs import EDGES, any_tree, many_webs
from treesapart.errors import NoCount, NoMost
from treesapart.layout import made_web
from treesapart.packing import most_trees, trees_or_parting

ODD_COUNTS = odd_things() + [0, -1, 31, 32, 60, 10 ** 59, -10 ** 59]


class Packing(Papers):
    def assert_answer(self, web, k, told):
        """Go over the trees, or the parting; whether there are trees."""
        self.assertIs(type(told), tuple)
        self.assertEqual(len(told), 2)
        if told[0] == "trees":
            self.assert_trees(web, told[1], k)
        else:
            self.assertEqual(told[0], "parting")
            self.assert_too_few(web, told[1], k)
        return told[0] == "trees"


class TreesOrPartingTest(Packing):
    def test_all_k_of_many_webs(self):
        for web in EDGES + many_webs(21, 60):
            answers = [self.assert_answer(web, k, trees_or_parting(web, k)) for k in range(1, 31)]
            self.assertEqual(answers, sorted(answers, reverse=True))

    def test_against_all_partings(self):
        for web in EDGES[:5] + many_webs(22, 120, 5):
            partings = [(len(crossing(web, parting)), len(parting) - 1) for parting in partings_of(web[0])]
            for k in list(range(1, 9)) + [29, 30]:
                there = all(go >= k * parts for go, parts in partings)
                self.assertIs(self.assert_answer(web, k, trees_or_parting(web, k)), there, (web, k))

    def test_trees_laid_together(self):
        rng = random.Random(23)
        for places in range(2, 10):
            for k in range(1, 30 // (places - 1) + 1):
                ties = [tie for _ in range(k) for tie in any_tree(rng, range(places))]
                web = made_web(places, rng.sample(ties, len(ties)))
                self.assertEqual(trees_or_parting(web, k)[0], "trees")
                self.assertTrue(self.assert_answer(web, k, trees_or_parting(web, k)))
                self.assert_answer(web, min(30, k + 1), trees_or_parting(web, min(30, k + 1)))
                if k < 30:
                    self.assertEqual(trees_or_parting(web, k + 1)[0], "parting")

    def test_one_place(self):
        for k in range(1, 31):
            self.assertEqual(trees_or_parting(made_web(1, []), k), ("trees", [[] for _ in range(k)]))

    def test_no_ties(self):
        for places in range(2, 10):
            for k in (1, 2, 30):
                self.assertFalse(self.assert_answer((places, ()), k, trees_or_parting((places, ()), k)))

    def test_two_places(self):
        web = made_web(2, [(0, 1)] * 30)
        self.assertEqual(sorted(trees_or_parting(web, 30)[1]), [[number] for number in range(30)])
        web = made_web(2, [(0, 1)] * 29)
        self.assertEqual(trees_or_parting(web, 30), ("parting", [[0], [1]]))

    def test_no_count(self):
        for web in (made_web(1, []), made_web(3, [(0, 1), (1, 2)])):
            trees_or_parting(web, 1)
            for k in ODD_COUNTS:
                self.assert_refused(NoCount, trees_or_parting, web, k)

    def test_told_lists_are_the_askers_own(self):
        for web in EDGES[::2] + many_webs(24, 30):
            for k in (1, 2, 3):
                self.assert_own(lambda: trees_or_parting(web, k))


class MostTreesTest(Packing):
    def test_many_webs(self):
        for web in EDGES + many_webs(25, 200):
            if web[0] > 1:
                told = most_trees(web)
                self.assertIs(type(told), tuple)
                k, trees, parting = told
                self.assert_whole(k)
                self.assert_trees(web, trees, k)
                self.assert_too_few(web, parting, k + 1)

    def test_against_all_partings(self):
        for web in many_webs(26, 80, 5):
            if web[0] > 1:
                partings = [parting for parting in partings_of(web[0]) if len(parting) > 1]
                most = min(len(crossing(web, parting)) // (len(parting) - 1) for parting in partings)
                self.assertEqual(most_trees(web)[0], most)

    def test_webs_in_pieces(self):
        for web in EDGES + many_webs(27, 60):
            if len(pieces(range(web[0]), web[1])) > 1:
                k, trees, parting = most_trees(web)
                self.assertEqual((k, trees), (0, []))
                self.assert_too_few(web, parting, 1)

    def test_two_places_with_all_numbers_of_ties(self):
        for many in range(31):
            k, trees, parting = most_trees(made_web(2, [(0, 1)] * many))
            self.assertEqual((k, sorted(trees), parting), (many, [[at] for at in range(many)], [[0], [1]]))

    def test_no_most(self):
        self.assert_refused(NoMost, most_trees, made_web(1, []))

    def test_told_lists_are_the_askers_own(self):
        for web in many_webs(28, 30):
            if web[0] > 1:
                self.assert_own(lambda: most_trees(web))
