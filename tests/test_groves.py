"""treesapart.groves: ties and lanes that come and go, deeds that are undone and done again."""

import random

from tests.papers import Papers
from tests.things import odd_amounts, odd_from
from tests.webs import GREAT
from treesapart.errors import NoCount, NoDeed, NoMost, NoPlace, NoSpreads, NoStrengths, NoSuch, NoTrees, NoWeb, TooMany
from treesapart.flows import most_out
from treesapart.groves import Grove
from treesapart.lanes import made_lanes
from treesapart.layout import made_web
from treesapart.sharing import most_share
from treesapart.spreads import lane_use
from treesapart.uses import least_use


class Book:
    """A plain book of the deeds that were done: what stands is read off it from the first one on."""

    def __init__(self, places, one_way=False):
        self.places, self.one_way = places, one_way
        self.deeds, self.done, self.given = [], 0, 0

    def write(self, *deed):
        self.deeds[self.done:] = [deed]
        self.done += 1

    def put(self, a, b, strength):
        self.given += 1
        ends = (a, b) if self.one_way or a < b else (b, a)
        self.write("put", self.given - 1, *ends, strength)
        return self.given - 1

    def take(self, number):
        self.write("take", number)

    def strengthen(self, number, strength):
        self.write("strengthen", number, strength)

    def back(self):
        self.done -= 1

    def again(self):
        self.done += 1

    def ties(self):
        standing = {}
        for kind, number, *told in self.deeds[:self.done]:
            if kind == "put":
                standing[number] = (number, *told)
            elif kind == "take":
                del standing[number]
            else:
                standing[number] = standing[number][:3] + (told[0],)
        return [standing[number] for number in sorted(standing)]

    def numbers(self):
        return [tie[0] for tie in self.ties()]

    def strengths(self):
        return [tie[3] for tie in self.ties()]

    def web(self):
        """The web, or lane web, made anew of what stands."""
        make = made_lanes if self.one_way else made_web
        return make(self.places, [tie[1:3] for tie in self.ties()])


def do_both(grove, book, deed, *handed):
    """Do a deed to both; what the grove and the book tell."""
    return getattr(grove, deed)(*handed), getattr(book, deed)(*handed)


def any_deed(rng, book):
    """A deed that can be done as the book stands, and what is handed in."""
    choices = ["put"] * 5 if book.places > 1 and len(book.ties()) < (60 if book.one_way else 30) else []
    choices += ["take", "strengthen"] if book.ties() else []
    choices += ["back"] * 2 if book.done else []
    choices += ["again"] * 2 if book.done < len(book.deeds) else []
    deed = rng.choice(choices)
    strength = rng.choice((0, 1, 1, 2, 3, 12, GREAT))
    if deed == "put":
        return deed, *rng.sample(range(book.places), 2), strength
    if deed in ("back", "again"):
        return (deed,)
    number, a, b, kept = rng.choice(book.ties())
    return (deed, number) if deed == "take" else (deed, number, rng.choice((strength, kept)))


def grown(rng, places, one_way, deeds):
    """A grove and its book behind so many deeds."""
    grove, book = Grove(places, one_way), Book(places, one_way)
    for _ in range(deeds):
        do_both(grove, book, *any_deed(rng, book))
    return grove, book


class Groves(Papers):
    def assert_ties(self, grove, book):
        told = grove.ties()
        self.assertIs(type(told), list)
        for tie in told:
            self.assertIs(type(tie), tuple)
            self.assert_whole(*tie)
        self.assertEqual(told, book.ties())

    def assert_most(self, grove, book, root):
        told = grove.most(root)
        self.assert_whole(told)
        if book.one_way:
            self.assertEqual(told, most_out(book.web(), book.strengths(), root)[0])
        else:
            self.assertEqual(told, most_share(book.web(), book.strengths())[0])
        return told

    def assert_trees(self, grove, book, k, root):
        """Go over the trees or spreads, by the numbers in the book, or what stands in their way."""
        told = grove.trees(k, root)
        self.assertIs(type(told), tuple)
        kind, lists = told
        web, strengths = book.web(), book.strengths()
        if kind in ("trees", "spreads"):
            numbers = book.numbers()
            spots = [[numbers.index(number) for number in one] for one in lists]
        if book.one_way:
            self.assertIn(kind, ("spreads", "places"))
            if kind == "spreads":
                self.assert_spreads(web, strengths, root, k, spots)
            else:
                self.assert_too_little(web, strengths, root, k, lists)
        else:
            self.assertIn(kind, ("trees", "parting"))
            if kind == "trees":
                self.assert_strong(web, strengths, k, spots)
            else:
                self.assert_too_weak(web, strengths, lists, k)
        return kind in ("trees", "spreads")

    def assert_least(self, grove, book, k, number, root, there):
        """Go over the least use where there are trees, and over what is refused where there are none."""
        web, strengths, at = book.web(), book.strengths(), book.numbers().index(number)
        if there:
            told = grove.least(k, number, root)
            self.assert_whole(told)
            if book.one_way:
                self.assertEqual(told, lane_use(web, strengths, root, k, at)[0])
            else:
                self.assertEqual(told, least_use(web, strengths, k, at)[0])
        elif book.one_way:
            places = self.assert_refused(NoSpreads, grove.least, k, number, root).places
            self.assert_too_little(web, strengths, root, k, places)
        else:
            parting = self.assert_refused(NoTrees, grove.least, k, number, root).parting
            self.assert_too_weak(web, strengths, parting, k)

    def assert_all(self, rng, grove, book):
        """All that a grove tells is what a web made anew tells; whether there were trees."""
        self.assert_ties(grove, book)
        root = rng.randrange(book.places)
        most = self.assert_most(grove, book, root) if book.places > 1 else 12
        there = [self.assert_trees(grove, book, k, root) for k in range(1, 13)]
        self.assertEqual(there, [k <= most for k in range(1, 13)])
        for number in rng.sample(book.numbers(), min(2, len(book.ties()))):
            for k in {1, min(12, max(1, most)), min(12, most + 1)}:
                self.assert_least(grove, book, k, number, root, k <= most)
        return most > 0

    def assert_unmoved(self, grove, kind, ask, *handed):
        """What is refused changes nothing."""
        kept = grove.ties()
        refusal = self.assert_refused(kind, ask, *handed)
        self.assertEqual(grove.ties(), kept)
        return refusal


class DeedsTest(Groves):
    def test_rows_of_deeds(self):
        rng = random.Random(141)
        for at in range(150):
            grove, book = Grove(2 + at % 8, at % 2 == 0), Book(2 + at % 8, at % 2 == 0)
            for _ in range(100):
                told, wanted = do_both(grove, book, *any_deed(rng, book))
                self.assertEqual(told, wanted)
                self.assertIs(type(told), type(wanted))
                self.assert_ties(grove, book)

    def test_what_is_told_behind_deeds(self):
        rng = random.Random(142)
        found = []
        for at in range(60):
            grove, book = grown(rng, rng.randint(2, 9 if at % 3 else 4), at % 2 == 0, rng.randint(0, 80))
            for _ in range(4):
                found.append(self.assert_all(rng, grove, book))
                do_both(grove, book, *any_deed(rng, book))
        self.assertGreater(min(found.count(True), found.count(False)), 20)

    def test_what_is_told_of_full_groves(self):
        rng = random.Random(143)
        for one_way in (False, True):
            for places in (2, 3, 5, 9):
                grove, book = Grove(places, one_way), Book(places, one_way)
                for _ in range(60 if one_way else 30):
                    do_both(grove, book, "put", *rng.sample(range(places), 2), rng.choice((1, 2, 5, GREAT)))
                self.assert_all(rng, grove, book)
                self.assert_unmoved(grove, TooMany, grove.put, 0, 1, 1)
                for number in rng.sample(book.numbers(), 10):
                    do_both(grove, book, "take", number)
                self.assert_all(rng, grove, book)

    def test_the_lesser_place_first_or_as_it_leads(self):
        grove, lanes = Grove(4), Grove(4, True)
        for one in (grove, lanes):
            self.assertEqual([one.put(3, 1, 5), one.put(1, 3, 0), one.put(2, 0, GREAT)], [0, 1, 2])
        self.assertEqual(grove.ties(), [(0, 1, 3, 5), (1, 1, 3, 0), (2, 0, 2, GREAT)])
        self.assertEqual(lanes.ties(), [(0, 3, 1, 5), (1, 1, 3, 0), (2, 2, 0, GREAT)])
        self.assertEqual(Grove(4, False).ties(), [])

    def test_a_number_never_comes_twice(self):
        grove = Grove(3)
        self.assertEqual([grove.put(0, 1, 1), grove.put(1, 2, 1)], [0, 1])
        grove.take(1)
        self.assertEqual(grove.put(0, 2, 1), 2)
        grove.back()
        self.assertEqual(grove.put(0, 2, 7), 3)
        self.assertEqual([tie[0] for tie in grove.ties()], [0, 3])
        grove.back()
        grove.back()
        # Now tie 1 stands again, and 2 and 3 are numbers of ties that were put and undone.
        self.assertEqual([tie[0] for tie in grove.ties()], [0, 1])
        for number in (2, 3, 4):
            self.assert_unmoved(grove, NoSuch, grove.take, number)
        grove.again()
        grove.again()
        self.assertEqual(grove.ties(), [(0, 0, 1, 1), (3, 0, 2, 7)])
        self.assertEqual(grove.put(0, 1, 1), 4)

    def test_back_to_the_first_and_again_to_the_last(self):
        rng = random.Random(144)
        for at in range(20):
            one_way = at % 2 == 0
            grove, book = grown(rng, 5, one_way, 30)
            while book.done < len(book.deeds):
                do_both(grove, book, "again")
            rows = []
            while book.done:
                rows.append(grove.ties())
                do_both(grove, book, "back")
                self.assert_ties(grove, book)
            self.assertEqual(grove.ties(), [])
            self.assert_unmoved(grove, NoDeed, grove.back)
            while rows:
                do_both(grove, book, "again")
                self.assertEqual(grove.ties(), rows.pop())
            self.assert_unmoved(grove, NoDeed, grove.again)
            self.assertEqual(grove.put(0, 1, 1), book.given)

    def test_again_behind_another_deed(self):
        for deed, *handed in (("put", 0, 1, 1), ("take", 0), ("strengthen", 0, 3), ("strengthen", 0, 1)):
            grove = Grove(3)
            grove.put(0, 1, 1)
            grove.put(1, 2, 1)
            grove.back()
            getattr(grove, deed)(*handed)
            self.assert_unmoved(grove, NoDeed, grove.again)
            grove.back()
            self.assertEqual(grove.ties(), [(0, 0, 1, 1)])
            grove.again()
            self.assert_unmoved(grove, NoDeed, grove.again)

    def test_the_strength_that_it_has_is_a_deed_too(self):
        grove = Grove(2)
        grove.put(0, 1, 4)
        grove.strengthen(0, 4)
        self.assertEqual(grove.ties(), [(0, 0, 1, 4)])
        grove.back()
        self.assertEqual(grove.ties(), [(0, 0, 1, 4)])
        grove.back()
        self.assertEqual(grove.ties(), [])
        self.assert_unmoved(grove, NoDeed, grove.back)

    def test_nothing_done_and_nothing_undone(self):
        for one_way in (False, True):
            grove = Grove(2, one_way)
            self.assert_unmoved(grove, NoDeed, grove.back)
            self.assert_unmoved(grove, NoDeed, grove.again)
            grove.put(0, 1, 1)
            self.assert_unmoved(grove, NoDeed, grove.again)
            grove.back()
            self.assert_unmoved(grove, NoDeed, grove.back)

    def test_two_groves_are_apart(self):
        first, second = Grove(2), Grove(2)
        self.assertEqual([first.put(0, 1, 1), first.put(0, 1, 1), second.put(0, 1, 5)], [0, 1, 0])
        second.back()
        self.assertEqual((len(first.ties()), second.ties()), (2, []))
        self.assert_refused(NoDeed, first.again)


class TellingTest(Groves):
    def test_numbers_behind_ties_that_were_taken(self):
        grove = Grove(3)
        for a, b in ((0, 1), (0, 1), (1, 2), (0, 2), (1, 2)):
            grove.put(a, b, 1)
        for number in (0, 3, 2):
            grove.take(number)
        self.assertEqual(grove.trees(1), ("trees", [[1, 4]]))
        grove.strengthen(1, 12)
        grove.strengthen(4, 12)
        self.assertEqual(grove.trees(12), ("trees", [[1, 4]] * 12))
        self.assertEqual((grove.most(), grove.least(12, 4), grove.least(5, 1)), (12, 12, 5))

    def test_a_root_other_than_the_first(self):
        grove = Grove(3, True)
        self.assertEqual([grove.put(1, 0, 3), grove.put(0, 2, 5), grove.put(1, 2, 1)], [0, 1, 2])
        self.assertEqual([grove.most(root) for root in range(3)], [0, 3, 0])
        self.assertEqual([grove.most(), grove.most(0)], [0, 0])
        self.assertEqual(grove.trees(1)[0], "places")
        self.assertEqual(grove.trees(3, 1)[0], "spreads")
        self.assertEqual([grove.least(3, number, 1) for number in range(3)], [3, 2, 0])
        self.assert_unmoved(grove, NoSpreads, grove.least, 1, 0)
        self.assert_unmoved(grove, NoSpreads, grove.least, 4, 0, 1)

    def test_a_root_has_no_bearing_on_ties(self):
        grove = Grove(3)
        for a, b in ((0, 1), (1, 2), (0, 2)):
            grove.put(a, b, 2)
        self.assertEqual([grove.most(root) for root in range(3)], [3, 3, 3])
        for k in (1, 3, 4):
            self.assertEqual({str(grove.trees(k, root)) for root in range(3)}, {str(grove.trees(k))})
        self.assertEqual([grove.least(3, number, root) for number in range(3) for root in range(3)], [2] * 9)
        self.assertEqual([grove.least(2, number) for number in range(3)], [0] * 3)

    def test_one_place(self):
        for one_way, kind in ((False, "trees"), (True, "spreads")):
            grove = Grove(1, one_way)
            self.assertEqual(grove.ties(), [])
            for k in (1, 5, 12):
                self.assertEqual(grove.trees(k), (kind, [[] for _ in range(k)]))
                self.assertEqual(grove.trees(k, 0), (kind, [[] for _ in range(k)]))
            self.assert_unmoved(grove, NoMost, grove.most)
            self.assert_unmoved(grove, NoPlace, grove.most, 1)
            self.assert_unmoved(grove, NoPlace, grove.put, 0, 0, 1)
            self.assert_unmoved(grove, NoSuch, grove.least, 1, 0)

    def test_told_lists_are_the_askers_own(self):
        rng = random.Random(145)
        for at in range(16):
            grove, book = grown(rng, rng.randint(2, 6), at % 2 == 0, 60)
            self.assert_own(grove.ties)
            for k in (1, 2, 5):
                self.assert_own(lambda: grove.trees(k))
                for number in book.numbers()[:2]:
                    if grove.trees(k)[0] == "parting":
                        self.assert_own(lambda: self.assert_refused(NoTrees, grove.least, k, number).parting)
                    elif grove.trees(k)[0] == "places":
                        self.assert_own(lambda: self.assert_refused(NoSpreads, grove.least, k, number).places)
                    else:
                        self.assertEqual(grove.least(k, number), grove.least(k, number))
            kept = (grove.ties(), book.ties())
            while book.done:
                do_both(grove, book, "back")
            self.assertEqual(*kept)

    def test_asking_is_no_deed(self):
        grove = Grove(2)
        grove.put(0, 1, 2)
        grove.back()
        grove.again()
        grove.back()
        for told in (grove.ties(), grove.most(), grove.trees(1)[0]):
            self.assertIn(told, ([], 0, "parting"))
        grove.again()
        self.assertEqual((grove.most(), grove.trees(2), grove.least(2, 0)), (2, ("trees", [[0], [0]]), 2))
        grove.back()
        self.assert_unmoved(grove, NoDeed, grove.back)


class RefusalsTest(Groves):
    def some_groves(self):
        """Groves of both kinds, behind each of which stands one deed that was undone."""
        found = []
        for one_way in (False, True):
            for places in (2, 3, 9):
                grove = Grove(places, one_way)
                grove.put(0, 1, 2)
                grove.put(1, 0, 3)
                grove.take(0)
                grove.back()
                found.append(grove)
        return found

    def assert_still(self, grove):
        """The deed that was undone can still be done again, and no deed came in between."""
        grove.again()
        self.assertEqual([tie[0] for tie in grove.ties()], [1])
        for _ in range(3):
            grove.back()
        self.assertEqual(grove.ties(), [])
        self.assert_unmoved(grove, NoDeed, grove.back)
        for _ in range(2):
            grove.again()
        self.assertEqual([tie[0] for tie in grove.ties()], [0, 1])
        self.assertEqual(grove.put(0, 1, 1), 2)

    def test_no_web(self):
        for places in odd_from(1, 10):
            for handed in ((places,), (places, False), (places, True)):
                self.assert_refused(NoWeb, Grove, *handed)
        for places in range(1, 10):
            self.assertEqual(Grove(places).ties(), [])

    def test_put(self):
        for grove in self.some_groves():
            for thing in odd_from(0, 9):
                for strength in (1, None):
                    self.assert_unmoved(grove, NoPlace, grove.put, thing, 1, strength)
                    self.assert_unmoved(grove, NoPlace, grove.put, 0, thing, strength)
                    self.assert_unmoved(grove, NoPlace, grove.put, thing, thing, strength)
            for place in (0, 1):
                self.assert_unmoved(grove, NoPlace, grove.put, place, place, 1)
                self.assert_unmoved(grove, NoPlace, grove.put, place, place, None)
            for strength in odd_amounts():
                self.assert_unmoved(grove, NoStrengths, grove.put, 0, 1, strength)
                self.assert_unmoved(grove, NoStrengths, grove.put, 1, 0, strength)
            self.assert_still(grove)

    def test_put_of_a_place_just_beyond(self):
        for places in range(1, 10):
            for one_way in (False, True):
                grove = Grove(places, one_way)
                for a, b in ((0, places), (places, 0), (places - 1, places), (-1, 0), (places - 1, -1)):
                    self.assert_unmoved(grove, NoPlace, grove.put, a, b, 1)
                self.assert_unmoved(grove, NoPlace, grove.most, places)

    def test_too_many(self):
        for one_way, many in ((False, 30), (True, 60)):
            grove = Grove(3, one_way)
            self.assertEqual([grove.put(at % 2, 2, 1) for at in range(many)], list(range(many)))
            for _ in range(2):
                self.assert_unmoved(grove, TooMany, grove.put, 0, 1, 1)
                self.assert_unmoved(grove, TooMany, grove.put, 1, 0, GREAT)
            # What else is refused is refused first.
            self.assert_unmoved(grove, NoPlace, grove.put, 0, 3, None)
            self.assert_unmoved(grove, NoPlace, grove.put, 1, 1, 1)
            self.assert_unmoved(grove, NoStrengths, grove.put, 0, 1, -1)
            grove.take(7)
            self.assertEqual(grove.put(0, 1, 1), many)
            self.assert_unmoved(grove, TooMany, grove.put, 0, 1, 1)
            grove.back()
            self.assertEqual(grove.put(0, 1, 1), many + 1)
            self.assertEqual(len(grove.ties()), many)

    def test_take_and_strengthen(self):
        for grove in self.some_groves():
            for number in odd_from(0, 2):
                self.assert_unmoved(grove, NoSuch, grove.take, number)
                self.assert_unmoved(grove, NoSuch, grove.strengthen, number, 1)
                self.assert_unmoved(grove, NoSuch, grove.strengthen, number, None)
            for strength in odd_amounts():
                for number in (0, 1):
                    self.assert_unmoved(grove, NoStrengths, grove.strengthen, number, strength)
            self.assert_still(grove)

    def test_ties_that_stand_no_more(self):
        grove = Grove(2)
        for _ in range(3):
            grove.put(0, 1, 1)
        grove.take(1)
        for ask, *handed in ((grove.take,), (grove.strengthen, 5), (grove.strengthen, None)):
            self.assert_unmoved(grove, NoSuch, ask, 1, *handed)
        self.assert_unmoved(grove, NoSuch, grove.least, 1, 1)
        grove.back()
        self.assertEqual(grove.least(3, 1), 1)

    def test_most_trees_and_least(self):
        for grove in self.some_groves():
            for root in odd_from(0, 9):
                self.assert_unmoved(grove, NoPlace, grove.most, root)
                for k in (1, 0, None):
                    self.assert_unmoved(grove, NoPlace, grove.trees, k, root)
                    self.assert_unmoved(grove, NoPlace, grove.least, k, 0, root)
                    self.assert_unmoved(grove, NoPlace, grove.least, k, 9, root)
            for k in odd_from(1, 13) + [30]:
                self.assert_unmoved(grove, NoCount, grove.trees, k)
                self.assert_unmoved(grove, NoCount, grove.trees, k, 1)
                for number in (0, 2, None):
                    self.assert_unmoved(grove, NoCount, grove.least, k, number)
                    self.assert_unmoved(grove, NoCount, grove.least, k, number, 1)
            for number in odd_from(0, 2):
                # There are no twelve trees, but that is refused behind the number.
                for k in (1, 12):
                    self.assert_unmoved(grove, NoSuch, grove.least, k, number)
                    self.assert_unmoved(grove, NoSuch, grove.least, k, number, 1)
            self.assert_unmoved(grove, NoSpreads if grove.one_way else NoTrees, grove.least, 12, 0)
            self.assert_still(grove)

    def test_numbers_that_true_and_false_are_like(self):
        for one_way in (False, True):
            grove = Grove(2, one_way)
            self.assertEqual([grove.put(0, 1, 1), grove.put(0, 1, 1)], [0, 1])
            self.assertEqual([grove.most(0), grove.least(1, 0), grove.least(1, 1)], [2, 0, 0])
            self.assertTrue(grove.trees(1))
            for number in (False, True):
                self.assert_unmoved(grove, NoPlace, grove.most, number)
                self.assert_unmoved(grove, NoPlace, grove.trees, 1, number)
                self.assert_unmoved(grove, NoCount, grove.trees, number)
                self.assert_unmoved(grove, NoSuch, grove.least, 1, number)
                self.assert_unmoved(grove, NoSuch, grove.take, number)
                self.assert_unmoved(grove, NoSuch, grove.strengthen, number, 1)
                self.assert_unmoved(grove, NoStrengths, grove.strengthen, 0, number)
                self.assert_unmoved(grove, NoStrengths, grove.put, 0, 1, number)
                self.assert_unmoved(grove, NoPlace, grove.put, 1 - number, number, 1)
            self.assert_refused(NoWeb, Grove, True, one_way)
