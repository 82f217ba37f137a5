"""Tests go over told papers themselves: nothing here asks the program, but for which web to look at."""

import copy
import itertools
import unittest

from tests.things import partings_of


def pieces(places, pairs):
    """The sets of these places that hang together by the pairs."""
    found = [{place} for place in places]
    for pair in pairs:
        hit = [piece for piece in found if piece & set(pair)]
        found = [piece for piece in found if piece not in hit] + [set().union(*hit)]
    return found


def ties_of(web, numbers):
    return [web[1][number] for number in numbers]


def without_ring(web, numbers):
    return len(pieces(range(web[0]), ties_of(web, numbers))) == web[0] - len(numbers)


def crossing(web, parting):
    """The numbers of the ties between the parts."""
    return [number for number, (a, b) in enumerate(web[1])
            if not any(a in part and b in part for part in parting)]


def lying_in(web, places):
    """The numbers of the ties inside the places."""
    return [number for number, tie in enumerate(web[1]) if set(tie) <= set(places)]


def sets_of(places, least=1):
    """All sets of at least so many of the places, as rising lists."""
    places = list(places)
    return [list(some) for many in range(least, len(places) + 1)
            for some in itertools.combinations(places, many)]


def are_full(web, woods, places):
    """Whether each wood holds these places together by its ties inside them."""
    inner = set(lying_in(web, places))
    return len(places) > 1 and all(
        len(pieces(places, ties_of(web, [number for number in wood if number in inner]))) == 1
        for wood in woods)


def most_of(web, strengths):
    """The greatest k for which no parting has too little strength, of two places or more."""
    between = [(sum(strengths[number] for number in crossing(web, parting)), len(parting) - 1)
               for parting in partings_of(web[0]) if len(parting) > 1]
    return min(together // parts for together, parts in between)


def made_of(strengths, number, strength):
    """The strengths, this tie's made of another one."""
    return strengths[:number] + [strength] + strengths[number + 1:]


def entered(lane_web, places):
    """The numbers of the lanes that lead from elsewhere to one of the places."""
    return [number for number, (a, b) in enumerate(lane_web[1]) if b in places and a not in places]


def leading_in(lane_web, strengths, places):
    """The strengths of the lanes that enter the places, together."""
    return sum(strengths[number] for number in entered(lane_web, places))


def least_in(lane_web, strengths, root):
    """The least that leads into some places without the root, of two places or more."""
    others = [place for place in range(lane_web[0]) if place != root]
    return min(leading_in(lane_web, strengths, places) for places in sets_of(others))


def are_spread(lane_web, root, numbers):
    """Whether none of the lanes leads to the root, just one to each other place, and one comes there by them."""
    lanes = [lane_web[1][number] for number in numbers]
    reached = {root}
    for _ in lanes:
        reached |= {b for a, b in lanes if a in reached}
    ends = sorted([root] + [b for a, b in lanes])
    return ends == list(range(lane_web[0])) == sorted(reached)


def lists_in(thing):
    """All lists in an answer, the same one as often as it stands there."""
    if not isinstance(thing, (list, tuple)):
        return []
    found = [thing] if isinstance(thing, list) else []
    return found + [one for part in thing for one in lists_in(part)]


class Papers(unittest.TestCase):
    def assert_whole(self, *things):
        for thing in things:
            self.assertIs(type(thing), int)

    def assert_rising(self, told, beyond):
        """A rising list of numbers from 0 on, each below this one."""
        self.assertIs(type(told), list)
        self.assert_whole(*told)
        self.assertEqual(told, sorted(set(told)))
        self.assertTrue(all(0 <= one < beyond for one in told), told)

    def assert_apart(self, web, woods, many):
        """So many woods, each as numbers, that share no tie."""
        self.assertIs(type(woods), list)
        self.assertEqual(len(woods), many)
        for wood in woods:
            self.assert_rising(wood, len(web[1]))
            self.assertTrue(without_ring(web, wood), (web, wood))
        held = [number for wood in woods for number in wood]
        self.assertEqual(len(held), len(set(held)), (web, woods))

    def assert_trees(self, web, trees, k):
        self.assert_apart(web, trees, k)
        for tree in trees:
            self.assertEqual(len(tree), web[0] - 1, (web, trees))

    def assert_parting(self, web, parting):
        self.assertIs(type(parting), list)
        for part in parting:
            self.assert_rising(part, web[0])
            self.assertTrue(part)
        self.assertEqual(parting, sorted(parting))
        self.assertEqual(sorted(itertools.chain(*parting)), list(range(web[0])))

    def assert_too_few(self, web, parting, k):
        self.assert_parting(web, parting)
        self.assertLess(len(crossing(web, parting)), k * (len(parting) - 1), (web, parting, k))

    def assert_places(self, web, places):
        """Some places, two at least."""
        self.assert_rising(places, web[0])
        self.assertGreater(len(places), 1)

    def assert_full(self, web, woods, places):
        self.assert_places(web, places)
        self.assertTrue(are_full(web, woods, places), (web, woods, places))

    def assert_amounts(self, told, most):
        """A list with a whole number for each tie, from 0 to the one in most."""
        self.assertIs(type(told), list)
        self.assertEqual(len(told), len(most))
        self.assert_whole(*told)
        self.assertTrue(all(0 <= one <= bound for one, bound in zip(told, most)), (told, most))

    def assert_splits(self, web, amounts, splits, many, just):
        """One split for each place: none to it, and many, or at most many, to each other one."""
        self.assertIs(type(splits), list)
        self.assertEqual(len(splits), web[0])
        for root, split in enumerate(splits):
            self.assert_amounts(split, amounts)
            come = [0] * web[0]
            for (a, b), amount, part in zip(web[1], amounts, split):
                come[a] += part
                come[b] += amount - part
            self.assertEqual(come.pop(root), 0)
            if just:
                self.assertEqual(come, [many] * (web[0] - 1))
            self.assertLessEqual(max(come, default=0), many)

    def assert_share(self, web, strengths, k, share, splits):
        self.assert_amounts(share, strengths)
        self.assertEqual(sum(share), k * (web[0] - 1))
        self.assert_splits(web, share, splits, k, True)

    def assert_too_weak(self, web, strengths, parting, k):
        self.assert_parting(web, parting)
        together = sum(strengths[number] for number in crossing(web, parting))
        self.assertLess(together, k * (len(parting) - 1), (web, strengths, parting))

    def assert_used(self, web, strengths, k, lists):
        """k lists of numbers, each tie in at most as many as its strength; how many have each tie."""
        self.assertIs(type(lists), list)
        self.assertEqual(len(lists), k)
        times = [0] * len(web[1])
        for numbers in lists:
            self.assert_rising(numbers, len(web[1]))
            for number in numbers:
                times[number] += 1
        self.assert_amounts(times, strengths)
        return times

    def assert_strong(self, web, strengths, k, trees):
        """k trees, each tie in at most as many as its strength."""
        self.assert_used(web, strengths, k, trees)
        for tree in trees:
            self.assertEqual(len(tree), web[0] - 1, (web, trees))
            self.assertTrue(without_ring(web, tree), (web, tree))

    def assert_spreads(self, lane_web, strengths, root, k, spreads):
        """k spreads, each lane in at most as many as its strength; how many use each lane."""
        times = self.assert_used(lane_web, strengths, k, spreads)
        for spread in spreads:
            self.assertTrue(are_spread(lane_web, root, spread), (lane_web, root, spread))
        return times

    def assert_too_little(self, lane_web, strengths, root, k, places):
        """Some places, one at least, without the root, into which less than k leads."""
        self.assert_without_root(lane_web, root, places)
        self.assertLess(leading_in(lane_web, strengths, places), k, (lane_web, strengths, root, places))

    def assert_flow(self, lane_web, strengths, told, start, goal, amount):
        """A flow from start to goal of this amount."""
        self.assert_amounts(told, strengths)
        kept = [0] * lane_web[0]
        for (a, b), one in zip(lane_web[1], told):
            kept[a] -= one
            kept[b] += one
        wanted = [0] * lane_web[0]
        wanted[start], wanted[goal] = -amount, amount
        self.assertEqual(kept, wanted, (lane_web, strengths, told, start, goal))

    def assert_without_root(self, lane_web, root, places):
        """Some places, one at least, without the root."""
        self.assert_rising(places, lane_web[0])
        self.assertTrue(places)
        self.assertNotIn(root, places)

    def assert_thick(self, web, strengths, places, many):
        """Places, two at least, inside which the strengths are together too many."""
        self.assert_places(web, places)
        together = sum(strengths[number] for number in lying_in(web, places))
        self.assertGreater(together, many * (len(places) - 1), (web, strengths, places))

    def assert_own(self, ask):
        """What is told is the asker's own, list by list, and is told again."""
        first, second = ask(), ask()
        kept = copy.deepcopy(first)
        self.assertEqual(second, kept)
        lists = lists_in(first) + lists_in(second)
        self.assertEqual(len({id(one) for one in lists}), len(lists), first)
        for one in lists_in(first):
            one[:] = one[1:] + ["changed"]
            self.assertEqual(second, kept)
            self.assertEqual(ask(), kept)

    def assert_refused(self, kind, ask, *handed):
        """The refusal of what is handed in, which is of this very kind."""
        with self.assertRaises(kind) as caught:
            ask(*handed)
        self.assertIs(type(caught.exception), kind)
        return caught.exception
