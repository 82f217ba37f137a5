"""treesapart.firm: the greatest firm parts, and whether a tie is used by each choice of trees."""

import itertools

from tests.papers import Papers, crossing, lying_in, pieces, sets_of, ties_of
from tests.things import odd_things, partings_of
from tests.webs import EDGES, many_webs
from treesapart.errors import NoCount, NoSuch, NoTrees
from treesapart.firm import firm_parts, used
from treesapart.layout import made_web

ODD_COUNTS = odd_things() + [0, -1, 31, 32, 60, 10 ** 59, -10 ** 59]


def web_inside(web, places):
    """The web of some places and the ties inside them, its places numbered anew."""
    return len(places), tuple((places.index(a), places.index(b)) for a, b in ties_of(web, lying_in(web, places)))


def are_firm(web, places, k):
    """Whether between the parts of each parting of these places enough ties go."""
    small = web_inside(web, places)
    return all(len(crossing(small, parting)) >= k * (len(parting) - 1) for parting in partings_of(len(places)))


def greatest_firm(web, k):
    firm = [set(places) for places in sets_of(range(web[0])) if are_firm(web, places, k)]
    return sorted(sorted(one) for one in firm if not any(one < other for other in firm))


class FirmPartsTest(Papers):
    def assert_firm(self, web, part, trees, k):
        """k trees of the part that share no tie."""
        self.assertIs(type(trees), list)
        self.assertEqual(len(trees), k)
        inner = set(lying_in(web, part))
        for tree in trees:
            self.assert_rising(tree, len(web[1]))
            self.assertLessEqual(set(tree), inner)
            self.assertEqual(len(tree), len(part) - 1)
            self.assertEqual(len(pieces(part, ties_of(web, tree))), 1)
        self.assertEqual(len(set(itertools.chain(*trees))), k * (len(part) - 1))

    def assert_parts(self, web, k, told):
        self.assertIs(type(told), list)
        for one in told:
            self.assertIs(type(one), tuple)
            self.assert_firm(web, *one, k)
        parting = [part for part, trees in told]
        self.assert_parting(web, parting)
        for some in sets_of(range(len(parting)), 2):
            taken = [parting[at] for at in some]
            small = lying_in(web, list(itertools.chain(*taken)))
            go = [number for number in small if number in crossing(web, parting)]
            self.assertLess(len(go), k * (len(taken) - 1), (web, k, told))

    def test_many_webs(self):
        for at, web in enumerate(EDGES + many_webs(31, 60)):
            for k in (1, 2, 3, 4, 30) if at % 3 else (1, 2, 5, 7, 10, 15, 29):
                self.assert_parts(web, k, firm_parts(web, k))

    def test_against_all_sets_of_places(self):
        for web in EDGES[:5] + many_webs(32, 60, 5):
            for k in (1, 2, 3, 5, 30):
                self.assertEqual([part for part, trees in firm_parts(web, k)], greatest_firm(web, k), (web, k))

    def test_firm_places_of_one_alone_are_the_pieces(self):
        for web in EDGES + many_webs(33, 40):
            parts = sorted(sorted(piece) for piece in pieces(range(web[0]), web[1]))
            self.assertEqual([part for part, trees in firm_parts(web, 1)], parts)

    def test_a_triangle_and_a_tie(self):
        web = made_web(4, [(0, 1), (2, 3), (1, 2), (0, 2), (0, 1), (1, 2)])
        told = firm_parts(web, 2)
        self.assertEqual([part for part, trees in told], [[0, 1, 2], [3]])
        self.assertEqual(told[1][1], [[], []])
        self.assertEqual([part for part, trees in firm_parts(web, 3)], [[0], [1], [2], [3]])

    def test_firm_parts_that_leave_no_tie_over(self):
        web = made_web(4, [(0, 1), (0, 1), (2, 3), (2, 3), (1, 2)])
        self.assertEqual([part for part, trees in firm_parts(web, 2)], [[0, 1], [2, 3]])

    def test_one_place(self):
        for k in range(1, 31):
            self.assertEqual(firm_parts(made_web(1, []), k), [([0], [[] for _ in range(k)])])

    def test_no_count(self):
        for web in (made_web(1, []), made_web(3, [(0, 1), (1, 2)])):
            firm_parts(web, 1)
            for k in ODD_COUNTS:
                self.assert_refused(NoCount, firm_parts, web, k)

    def test_told_lists_are_the_askers_own(self):
        for web in EDGES[::2] + many_webs(34, 20):
            for k in (1, 2, 3):
                self.assert_own(lambda: firm_parts(web, k))


class UsedTest(Papers):
    def assert_used(self, web, k, number, told):
        """Go over the paper; whether each choice of trees uses the tie."""
        self.assertIs(type(told), tuple)
        self.assertEqual(len(told), 2)
        if told[0] == "without":
            self.assert_trees(web, told[1], k)
            self.assertNotIn(number, list(itertools.chain(*told[1])))
        else:
            self.assertEqual(told[0], "tight")
            self.assert_parting(web, told[1])
            go = crossing(web, told[1])
            self.assertEqual(len(go), k * (len(told[1]) - 1), (web, k, number, told))
            self.assertIn(number, go)
        return told[0] == "tight"

    def test_many_webs(self):
        found = []
        for web in EDGES + many_webs(35, 60):
            for k in (1, 2, 3, 5):
                for number in range(len(web[1])):
                    try:
                        told = used(web, k, number)
                    except NoTrees as refusal:
                        self.assert_too_few(web, refusal.parting, k)
                        break
                    found.append(self.assert_used(web, k, number, told))
        self.assertGreater(min(found.count(True), found.count(False)), 100)

    def test_against_all_partings(self):
        for web in many_webs(36, 80, 5):
            partings = [(crossing(web, parting), len(parting) - 1) for parting in partings_of(web[0])]
            for k in (1, 2, 3, 4):
                there = all(len(go) >= k * parts for go, parts in partings)
                for number in range(len(web[1])):
                    if there:
                        tight = any(number in go and len(go) == k * parts for go, parts in partings)
                        self.assertIs(self.assert_used(web, k, number, used(web, k, number)), tight)
                    else:
                        parting = self.assert_refused(NoTrees, used, web, k, number).parting
                        self.assert_too_few(web, parting, k)

    def test_thirty_trees(self):
        web = made_web(2, [(0, 1)] * 30)
        self.assertEqual(used(web, 30, 7), ("tight", [[0], [1]]))
        self.assertFalse(self.assert_used(web, 29, 7, used(web, 29, 7)))

    def test_refusals_and_their_order(self):
        web = made_web(3, [(0, 1), (1, 2), (0, 2)])
        used(web, 1, 1)
        numbers = odd_things() + [3, 4, -1, 10 ** 59, -10 ** 59]
        for number in numbers:
            self.assert_refused(NoSuch, used, web, 1, number)
            # There are no two trees, but that is refused behind the number.
            self.assert_refused(NoSuch, used, web, 2, number)
        for k in ODD_COUNTS:
            self.assert_refused(NoCount, used, web, k, 1)
            self.assert_refused(NoCount, used, web, k, 3)
            self.assert_refused(NoCount, used, web, k, None)
        self.assert_too_few(web, self.assert_refused(NoTrees, used, web, 2, 0).parting, 2)
        self.assert_too_few(web, self.assert_refused(NoTrees, used, web, 30, 2).parting, 30)
        for number in numbers:
            self.assert_refused(NoSuch, used, made_web(1, []), 3, number)

    def test_told_lists_are_the_askers_own(self):
        for web in EDGES[3::3] + many_webs(37, 30):
            for number in range(0, len(web[1]), 7):
                try:
                    self.assert_own(lambda: used(web, 2, number))
                except NoTrees:
                    self.assert_own(lambda: self.assert_refused(NoTrees, used, web, 2, number).parting)
