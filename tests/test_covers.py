"""treesapart.covers: woods that hold all ties, thick places, and woods evened."""

import copy
import itertools
import random

from tests.papers import Papers, lying_in, sets_of, without_ring
from tests.things import as_tuples, odd_things
from tests.webs import EDGES, many_webs
from treesapart.covers import evened, fewest_woods, woods_or_thick
from treesapart.errors import NoCount
from treesapart.layout import made_web

WEBS = EDGES + many_webs(61, 100)


def wanted(web):
    """How many woods the thickest places want."""
    return max([-(-len(lying_in(web, places)) // (len(places) - 1)) for places in sets_of(range(web[0]), 2)],
               default=0)


class Covers(Papers):
    def assert_cover(self, web, woods, many):
        """So many woods that share no tie and hold all ties."""
        self.assert_apart(web, woods, many)
        self.assertEqual(sorted(itertools.chain(*woods)), list(range(len(web[1]))))

    def assert_answer(self, web, many, told):
        """Go over the woods, or the thick places; whether there are woods."""
        self.assertIs(type(told), tuple)
        self.assertEqual(len(told), 2)
        if told[0] == "woods":
            self.assert_cover(web, told[1], many)
        else:
            self.assertEqual(told[0], "thick")
            self.assert_thick(web, [1] * len(web[1]), told[1], many)
        return told[0] == "woods"


class WoodsOrThickTest(Covers):
    def test_all_numbers_of_woods_of_many_webs(self):
        for web in WEBS:
            answers = [self.assert_answer(web, many, woods_or_thick(web, many)) for many in range(31)]
            self.assertEqual(answers, sorted(answers))
            self.assertTrue(answers[30])
            self.assertIs(answers[0], not web[1])

    def test_against_all_sets_of_places(self):
        for web in EDGES[:5] + many_webs(62, 80, 6):
            few = wanted(web)
            for many in (0, 1, 2, few - 1, few, few + 1, 30):
                if 0 <= many <= 30:
                    told = woods_or_thick(web, many)
                    self.assertIs(self.assert_answer(web, many, told), many >= few, (web, many))

    def test_no_woods(self):
        self.assertEqual(woods_or_thick(made_web(4, []), 0), ("woods", []))
        self.assertEqual(woods_or_thick(made_web(1, []), 0), ("woods", []))
        self.assertEqual(woods_or_thick(made_web(2, [(0, 1)]), 0), ("thick", [0, 1]))

    def test_some_woods_without_ties(self):
        self.assertEqual(woods_or_thick(made_web(1, []), 30), ("woods", [[] for _ in range(30)]))
        kind, woods = woods_or_thick(made_web(3, [(0, 1)]), 4)
        self.assertEqual((kind, sorted(woods)), ("woods", [[], [], [], [0]]))

    def test_no_count(self):
        for web in (made_web(1, []), made_web(3, [(0, 1), (1, 2)])):
            woods_or_thick(web, 0)
            woods_or_thick(web, 1)
            for many in odd_things() + [-1, -2, 31, 32, 60, 10 ** 59, -10 ** 59]:
                self.assert_refused(NoCount, woods_or_thick, web, many)

    def test_told_lists_are_the_askers_own(self):
        for web in EDGES[::2] + many_webs(63, 30):
            for many in (0, 1, 2, 3, 30):
                self.assert_own(lambda: woods_or_thick(web, many))


class FewestWoodsTest(Covers):
    def assert_fewest(self, web):
        told = fewest_woods(web)
        self.assertIs(type(told), tuple)
        woods, places = told
        self.assert_cover(web, woods, len(woods))
        if web[1]:
            self.assert_thick(web, [1] * len(web[1]), places, len(woods) - 1)
        else:
            self.assertEqual(told, ([], None))
        return len(woods)

    def test_many_webs(self):
        for web in WEBS + many_webs(64, 100):
            self.assert_fewest(web)

    def test_against_all_sets_of_places(self):
        for web in many_webs(65, 80, 6):
            self.assertEqual(self.assert_fewest(web), wanted(web))

    def test_no_ties(self):
        for places in range(1, 10):
            self.assertEqual(fewest_woods(made_web(places, [])), ([], None))

    def test_two_places(self):
        for many in range(1, 31):
            woods, places = fewest_woods(made_web(2, [(0, 1)] * many))
            self.assertEqual((sorted(woods), places), ([[at] for at in range(many)], [0, 1]))

    def test_told_lists_are_the_askers_own(self):
        for web in EDGES[::2] + many_webs(66, 30):
            self.assert_own(lambda: fewest_woods(web))


class EvenedTest(Covers):
    def some_woods(self, web, many, rng):
        """So many woods that share no tie, each as great as it may be, or smaller."""
        woods, free = [], rng.sample(range(len(web[1])), len(web[1]))
        for _ in range(many):
            wood, size = [], rng.choice((0, 1, 8, 8))
            for number in list(free):
                if len(wood) < size and without_ring(web, wood + [number]):
                    wood.append(number)
                    free.remove(number)
            woods.append(sorted(wood))
        return rng.sample(woods, many)

    def assert_evened(self, web, woods):
        kept = copy.deepcopy(woods)
        told = evened(web, woods)
        self.assertEqual(woods, kept)
        self.assert_apart(web, told, len(woods))
        self.assertEqual(sorted(itertools.chain(*told)), sorted(itertools.chain(*woods)))
        sizes = [len(wood) for wood in told]
        self.assertLessEqual(max(sizes, default=0) - min(sizes, default=0), 1)
        return told

    def test_woods_of_unlike_sizes(self):
        rng = random.Random(67)
        for web in WEBS:
            for many in (0, 1, 2, 3, 5, 9, 30):
                woods = self.some_woods(web, many, rng)
                told = self.assert_evened(web, woods)
                self.assertEqual(self.assert_evened(web, as_tuples(woods)), told)
                self.assert_evened(web, [tuple(wood) for wood in woods])
                self.assert_evened(web, told)

    def test_covers(self):
        for web in WEBS:
            woods, places = fewest_woods(web)
            self.assert_cover(web, self.assert_evened(web, woods), len(woods))

    def test_no_woods_and_woods_without_ties(self):
        for web in EDGES:
            self.assertEqual(evened(web, []), [])
            self.assertEqual(evened(web, ()), [])
            self.assertEqual(evened(web, [[], []]), [[], []])
            self.assertEqual(evened(web, ((),)), [[]])

    def test_one_tree_into_many_woods(self):
        web = made_web(9, [(at, at + 1) for at in range(8)])
        for many in range(30):
            for woods in ([[]] * many + [list(range(8))], [list(range(8))] + [[]] * many):
                self.assert_evened(web, woods)

    def test_only_some_ties_make_no_ring(self):
        web = made_web(4, [(0, 1), (1, 2), (2, 3), (0, 1)])
        self.assert_evened(web, [[0, 1, 2], [3]])
        self.assert_evened(web, [[3], [0, 1, 2]])
        self.assertNotIn(0, evened(web, [[3], [0, 1, 2]])[0])

    def test_what_is_told_and_handed_in(self):
        rng = random.Random(68)
        for web in many_webs(68, 20):
            woods = self.some_woods(web, 4, rng)
            self.assert_own(lambda: evened(web, woods))
        web, woods = made_web(3, [(0, 1), (1, 2)]), [[0, 1], []]
        told = evened(web, woods)
        kept = copy.deepcopy(told)
        woods[0].pop()
        woods.pop()
        self.assertEqual(told, kept)
        self.assertEqual(evened(web, woods), [[0]])
        # These are even already, and yet what is told is no list that was handed in.
        woods = [[0], [1]]
        for one in evened(web, woods):
            one.append("changed")
        self.assertEqual(woods, [[0], [1]])
