"""treesapart.strong: trees by strengths, or a parting."""

import random

from tests.papers import Papers, most_of
from tests.things import odd_from, odd_things
from tests.webs import EDGES, GREAT, many_webs, odd_strengths, strengths_for
from treesapart.errors import NoCount, NoStrengths
from treesapart.layout import made_web
from treesapart.packing import trees_or_parting
from treesapart.sharing import share_or_parting
from treesapart.strong import strong_trees

ODD_COUNTS = odd_from(1, 13) + [30]


class Strong(Papers):
    def assert_answer(self, web, strengths, k):
        """Go over the trees, or the parting; whether there are trees."""
        told = strong_trees(web, strengths, k)
        self.assertIs(type(told), tuple)
        self.assertEqual(len(told), 2)
        if told[0] == "trees":
            self.assert_strong(web, strengths, k, told[1])
        else:
            self.assertEqual(told[0], "parting")
            self.assert_too_weak(web, strengths, told[1], k)
        return told[0] == "trees"


class StrongTreesTest(Strong):
    def test_strengths_of_all_kinds(self):
        rng = random.Random(101)
        found = []
        for web in EDGES + many_webs(101, 60):
            for strengths in strengths_for(web, rng):
                for k in (1, 2, 3, rng.randint(4, 11), 12):
                    there = self.assert_answer(web, strengths, k)
                    self.assertIs(there, share_or_parting(web, strengths, k)[0] == "share")
                    found.append(there)
        self.assertGreater(min(found.count(True), found.count(False)), 300)

    def test_just_at_and_just_beyond_the_most(self):
        rng = random.Random(102)
        for web in many_webs(102, 60, 6):
            for strengths in strengths_for(web, rng) if web[0] > 1 else []:
                most = most_of(web, strengths)
                for k in range(max(1, most - 1), min(12, most + 2) + 1):
                    self.assertIs(self.assert_answer(web, strengths, k), k <= most)

    def test_a_tie_of_a_strength_is_so_many_ties_of_strength_one(self):
        rng = random.Random(103)
        for web in many_webs(103, 80, 6):
            strengths = [rng.choice((0, 1, 1, 2, 3)) for _ in web[1]]
            ties = [tie for tie, strength in zip(web[1], strengths) for _ in range(strength)]
            if len(ties) <= 30:
                many = made_web(web[0], ties)
                for k in range(1, 8):
                    there = self.assert_answer(web, strengths, k)
                    self.assertIs(self.assert_answer(many, [1] * len(ties), k), there)
                    self.assertEqual(trees_or_parting(many, k)[0] == "trees", there)

    def test_a_tie_taken_out_whole_is_one_of_strength_0(self):
        rng = random.Random(104)
        for web in EDGES[3:] + many_webs(104, 40):
            for out in rng.sample(range(len(web[1])), min(3, len(web[1]))):
                strengths = [rng.randint(0, 2) for _ in web[1]]
                strengths[out] = 0
                less = (web[0], web[1][:out] + web[1][out + 1:])
                for k in (1, 2, 3):
                    there = self.assert_answer(less, strengths[:out] + strengths[out + 1:], k)
                    self.assertIs(self.assert_answer(web, strengths, k), there)

    def test_one_tree_as_often_as_it_is_strong(self):
        web = made_web(3, [(0, 1), (1, 2)])
        for k in range(1, 13):
            for strength in (k, k + 1, GREAT):
                self.assertEqual(strong_trees(web, [strength] * 2, k), ("trees", [[0, 1]] * k))
            self.assertFalse(self.assert_answer(web, [k - 1, k], k))
            self.assertFalse(self.assert_answer(web, [GREAT, k - 1], k))

    def test_a_triangle(self):
        web = made_web(3, [(0, 1), (1, 2), (0, 2)])
        self.assertTrue(self.assert_answer(web, [2, 2, 2], 3))
        self.assertTrue(self.assert_answer(web, [8, 8, 8], 12))
        self.assertTrue(self.assert_answer(web, [12, 6, 6], 12))
        self.assertFalse(self.assert_answer(web, [GREAT, 6, 5], 12))
        self.assertFalse(self.assert_answer(web, [1, 1, 1], 2))

    def test_one_place(self):
        for k in range(1, 13):
            self.assertEqual(strong_trees(made_web(1, []), [], k), ("trees", [[] for _ in range(k)]))
            self.assertEqual(strong_trees(made_web(1, []), (), k), ("trees", [[] for _ in range(k)]))


class RefusalsTest(Strong):
    def test_refusals_and_their_order(self):
        for web in (made_web(3, [(0, 1), (1, 2)]), made_web(2, [(0, 1)]), made_web(3, []), made_web(1, [])):
            right = [1] * len(web[1])
            for strengths in odd_strengths(len(right), odd_things()):
                for k in (1, 0, 13, None):
                    self.assert_refused(NoStrengths, strong_trees, web, strengths, k)
            for k in ODD_COUNTS:
                self.assert_refused(NoCount, strong_trees, web, right, k)
                self.assert_refused(NoCount, strong_trees, web, tuple(right), k)

    def test_a_number_that_true_is_like(self):
        web = made_web(2, [(0, 1)])
        self.assertEqual(strong_trees(web, [1], 1), ("trees", [[0]]))
        self.assert_refused(NoCount, strong_trees, web, [1], True)
        self.assert_refused(NoStrengths, strong_trees, web, [True], 1)

    def test_what_is_told_and_handed_in(self):
        rng = random.Random(105)
        for web in EDGES[::3] + many_webs(105, 12):
            for strengths in strengths_for(web, rng):
                kept = list(strengths)
                for k in (1, 5):
                    self.assert_own(lambda: strong_trees(web, strengths, k))
                    told = strong_trees(web, strengths, k)
                    self.assertEqual(strong_trees(web, tuple(strengths), k), told)
                    self.assertEqual(strengths, kept)
        web, strengths = made_web(2, [(0, 1), (0, 1)]), [2, 0]
        told = strong_trees(web, strengths, 2)
        strengths[:] = [0, 1]
        self.assertEqual(told, ("trees", [[0], [0]]))
        self.assertEqual(strong_trees(web, strengths, 2), ("parting", [[0], [1]]))
        self.assertEqual(strong_trees(web, strengths, 1), ("trees", [[1]]))
