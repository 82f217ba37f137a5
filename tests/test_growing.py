"""treesapart.growing: woods that grow; each move is done by the test, too."""

import copy
import itertools
import random

from tests.papers import Papers, are_full, crossing, sets_of, without_ring
from tests.things import odd_things, partings_of
from tests.webs import EDGES, many_webs
from treesapart.errors import Held, NoCount, NoPlace, NoSuch, NotHeld
from treesapart.growing import Woods
from treesapart.layout import made_web

FAR = [10 ** 59, -10 ** 59, -1]


def state_of(woods):
    return woods.woods(), woods.left()


def some_many(web, rng):
    """Numbers of woods: none, thirty, and some that are about right for the web."""
    right = len(web[1]) // max(1, web[0] - 1)
    return sorted({0, 1, 30, right, min(30, right + 1), rng.randint(0, 8)})


def put_all(web, many, order):
    woods = Woods(web, many)
    for number in order:
        woods.put(number)
    return woods


class Growing(Papers):
    def assert_state(self, woods, web, stood):
        """The woods tell that the ties stand as the test has them: a list of sets."""
        held = set().union(*stood)
        told, left = woods.woods(), woods.left()
        self.assert_apart(web, told, len(stood))
        self.assertEqual(told, [sorted(wood) for wood in stood])
        self.assert_rising(left, len(web[1]))
        self.assertEqual(left, [number for number in range(len(web[1])) if number not in held])
        for number in range(len(web[1])):
            homes = [at for at, wood in enumerate(stood) if number in wood]
            self.assertEqual(woods.wood_of(number), homes[0] if homes else None)
            self.assertIn(type(woods.wood_of(number)), (int, type(None)))

    def assert_moves(self, web, stood, number, moves):
        """Do the moves, going over each of them."""
        self.assertIs(type(moves), list)
        self.assertEqual(moves[0][0], number)
        self.assertEqual(len({tie for tie, wood in moves}), len(moves))
        first = copy.deepcopy(stood)
        for move in moves:
            self.assertIs(type(move), tuple)
            self.assert_whole(*move)
            tie, wood = move
            self.assertIn(wood, range(len(stood)))
            homes = [at for at, ties in enumerate(first) if tie in ties]
            self.assertEqual(len(homes), 0 if tie == number else 1)
            self.assertNotIn(wood, homes)
            for home in homes:
                stood[home].remove(tie)
            stood[wood].add(tie)
        for wood in stood:
            self.assertTrue(without_ring(web, wood), (web, first, moves))

    def assert_put(self, woods, web, stood, number):
        """Put a tie, and go over what is told."""
        told = woods.put(number)
        self.assertIs(type(told), tuple)
        self.assertEqual(len(told), 2)
        if told[0] == "put":
            self.assert_moves(web, stood, number, told[1])
        else:
            self.assertEqual(told[0], "full")
            self.assert_full(web, stood, told[1])
            self.assertLessEqual(set(web[1][number]), set(told[1]))
        self.assert_state(woods, web, stood)
        return told[0] == "put"


class PutTest(Growing):
    def test_all_ties_of_many_webs(self):
        rng = random.Random(1)
        for web in EDGES + many_webs(1, 100):
            for many in some_many(web, rng):
                woods, stood = Woods(web, many), [set() for _ in range(many)]
                self.assert_state(woods, web, stood)
                for number in rng.sample(range(len(web[1])), len(web[1])):
                    self.assert_put(woods, web, stood, number)

    def test_ties_taken_and_put_again(self):
        rng = random.Random(2)
        for web in many_webs(2, 80):
            many = rng.choice(some_many(web, rng))
            woods, stood = Woods(web, many), [set() for _ in range(many)]
            for number in range(len(web[1])):
                self.assert_put(woods, web, stood, number)
            for _ in range(30 if web[1] else 0):
                number = rng.randrange(len(web[1]))
                homes = [wood for wood in stood if number in wood]
                if homes:
                    self.assertIsNone(woods.take(number))
                    homes[0].remove(number)
                    self.assert_state(woods, web, stood)
                    if rng.randint(0, 1):
                        self.assertTrue(self.assert_put(woods, web, stood, number))
                else:
                    self.assert_put(woods, web, stood, number)

    def test_in_any_order_as_many_are_held(self):
        rng = random.Random(3)
        for web in EDGES + many_webs(3, 80):
            every = list(range(len(web[1])))
            for many in some_many(web, rng):
                orders = [every, every[::-1]] + [rng.sample(every, len(every)) for _ in range(2)]
                held = {len(every) - len(put_all(web, many, order).left()) for order in orders}
                self.assertEqual(len(held), 1, (web, many))

    def test_as_many_as_the_least_sum_over_all_partings(self):
        rng = random.Random(4)
        for web in many_webs(4, 80, 6):
            partings = [(len(crossing(web, parting)), web[0] - len(parting)) for parting in partings_of(web[0])]
            for many in some_many(web, rng):
                order = rng.sample(range(len(web[1])), len(web[1]))
                held = len(order) - len(put_all(web, many, order).left())
                self.assertEqual(held, min(go + many * within for go, within in partings), (web, many))

    def test_a_tie_goes_from_wood_to_wood(self):
        web = made_web(4, [(0, 1), (1, 2), (2, 3), (0, 3), (0, 2), (1, 3)])
        for order in itertools.permutations(range(6)):
            woods, stood = Woods(web, 2), [set(), set()]
            for number in order:
                self.assertTrue(self.assert_put(woods, web, stood, number))

    def test_no_woods(self):
        for web in EDGES:
            woods = Woods(web, 0)
            self.assertEqual(woods.woods(), [])
            for number, tie in enumerate(web[1]):
                kind, places = woods.put(number)
                self.assertEqual(kind, "full")
                self.assert_places(web, places)
                self.assertLessEqual(set(tie), set(places))
                self.assertIsNone(woods.wood_of(number))
            self.assertEqual(woods.left(), list(range(len(web[1]))))

    def test_thirty_woods_hold_all(self):
        for web in EDGES + many_webs(5, 20):
            self.assertEqual(put_all(web, 30, range(len(web[1]))).left(), [])

    def test_one_wood(self):
        web = made_web(3, [(0, 1), (0, 1), (1, 2), (0, 2)])
        woods = Woods(web, 1)
        self.assertEqual(woods.put(0), ("put", [(0, 0)]))
        self.assertEqual(woods.put(1), ("full", [0, 1]))
        self.assertEqual(woods.put(2), ("put", [(2, 0)]))
        self.assertEqual(woods.put(3), ("full", [0, 1, 2]))
        self.assertEqual(woods.put(3), ("full", [0, 1, 2]))
        self.assertIsNone(woods.take(0))
        self.assertEqual(woods.put(3), ("put", [(3, 0)]))
        self.assertEqual(state_of(woods), ([[2, 3]], [0, 1]))

    def test_told_lists_are_the_askers_own(self):
        rng = random.Random(6)
        for web in many_webs(6, 30):
            many = rng.randint(0, 4)
            woods, stood = Woods(web, many), [set() for _ in range(many)]
            for number in range(len(web[1])):
                kind, told = woods.put(number)
                if kind == "put":
                    self.assert_moves(web, stood, number, told)
                else:
                    self.assert_own(lambda: woods.put(number))
                told[:] = ["changed"]
                self.assert_state(woods, web, stood)
            self.assert_own(lambda: woods.woods())
            self.assert_own(lambda: woods.left())

    def test_what_was_told_stays(self):
        web = made_web(3, [(0, 1), (0, 1), (1, 2)])
        woods = Woods(web, 1)
        moves, full = woods.put(0), woods.put(1)
        told = woods.woods(), woods.left(), woods.full(0, 1)
        woods.put(2)
        woods.take(0)
        self.assertEqual((moves, full), (("put", [(0, 0)]), ("full", [0, 1])))
        self.assertEqual(told, ([[0]], [1, 2], [0, 1]))


class FullTest(Growing):
    def assert_told_full(self, web, woods):
        stood = woods.woods()
        full = [set(places) for places in sets_of(range(web[0]), 2) if are_full(web, stood, places)]
        for a, b in itertools.permutations(range(web[0]), 2):
            told = woods.full(a, b)
            if any({a, b} <= places for places in full):
                self.assert_places(web, told)
                self.assertIn(set(told), full)
                self.assertLessEqual({a, b}, set(told))
            else:
                self.assertIsNone(told)

    def test_against_all_sets_of_places(self):
        rng = random.Random(7)
        for web in many_webs(7, 70, 5) + EDGES[:4]:
            for many in some_many(web, rng):
                woods = Woods(web, many)
                for number in rng.sample(range(len(web[1])), len(web[1])):
                    woods.put(number)
                    if rng.randint(0, 3) == 0:
                        self.assert_told_full(web, woods)
                for number in [number for number in range(len(web[1])) if woods.wood_of(number) is not None][::3]:
                    woods.take(number)
                self.assert_told_full(web, woods)

    def test_nine_places(self):
        for web in many_webs(8, 12):
            for many in (1, 2, 3):
                woods = put_all(web, many, range(len(web[1])))
                kept = state_of(woods)
                self.assert_told_full(web, woods)
                self.assertEqual(state_of(woods), kept)

    def test_of_no_woods_any_two_places_are_full(self):
        for web in EDGES:
            for a, b in itertools.permutations(range(web[0]), 2):
                told = Woods(web, 0).full(a, b)
                self.assert_places(web, told)
                self.assertLessEqual({a, b}, set(told))

    def test_a_line_is_full_of_one_wood(self):
        woods = put_all(made_web(4, [(0, 1), (1, 2), (2, 3)]), 1, [0, 1])
        self.assertEqual(woods.full(0, 2), [0, 1, 2])
        self.assertEqual(woods.full(2, 0), [0, 1, 2])
        self.assertIsNone(woods.full(0, 3))

    def test_told_lists_are_the_askers_own(self):
        for web in many_webs(9, 20, 6):
            woods = put_all(web, 2, range(len(web[1])))
            for a, b in itertools.permutations(range(web[0]), 2):
                self.assert_own(lambda: woods.full(a, b))


class CopiedTest(Growing):
    def test_copies_and_first_ones_changed_by_turns(self):
        rng = random.Random(10)
        for web in many_webs(10, 60):
            many = rng.choice(some_many(web, rng))
            kept = [(Woods(web, many), [set() for _ in range(many)])]
            for number in range(0, len(web[1]), 2):
                self.assert_put(kept[0][0], web, kept[0][1], number)
            for turn in range(12 if web[1] else 0):
                if turn % 4 == 0:
                    woods, stood = rng.choice(kept)
                    copied = woods.copied()
                    self.assertIs(type(copied), Woods)
                    kept.append((copied, copy.deepcopy(stood)))
                woods, stood = kept[turn % len(kept)]
                number = rng.randrange(len(web[1]))
                if woods.wood_of(number) is None:
                    self.assert_put(woods, web, stood, number)
                else:
                    woods.take(number)
                    stood[:] = [wood - {number} for wood in stood]
                for woods, stood in kept:
                    self.assert_state(woods, web, stood)

    def test_a_copy_refuses_alike(self):
        woods = Woods(made_web(2, [(0, 1), (0, 1)]), 1)
        woods.put(0)
        copied = woods.copied()
        self.assert_refused(Held, copied.put, 0)
        self.assert_refused(NotHeld, copied.take, 1)
        self.assert_refused(NoSuch, copied.wood_of, 2)
        copied.take(0)
        self.assert_refused(Held, woods.put, 0)
        self.assertEqual(woods.put(1), ("full", [0, 1]))
        self.assertEqual(copied.put(1), ("put", [(1, 0)]))


class RefusalsTest(Growing):
    def setUp(self):
        self.web = made_web(4, [(0, 1), (0, 1), (1, 2), (2, 3), (0, 1)])
        self.woods = put_all(self.web, 2, range(5))
        self.kept = state_of(self.woods)
        self.assertEqual(self.kept[1], [4])

    def tearDown(self):
        self.assertEqual(state_of(self.woods), self.kept)

    def test_no_count(self):
        for many in odd_things() + FAR + [31, 32, 60]:
            self.assert_refused(NoCount, Woods, self.web, many)
            self.assert_refused(NoCount, Woods, made_web(1, []), many)
        for many in range(31):
            self.assertEqual(Woods(self.web, many).woods(), [[] for _ in range(many)])

    def test_no_such(self):
        for ask in (self.woods.put, self.woods.take, self.woods.wood_of):
            for number in odd_things() + FAR + [5, 6, 30, -5]:
                self.assert_refused(NoSuch, ask, number)

    def test_no_such_where_there_are_no_ties(self):
        woods = Woods(made_web(3, []), 2)
        for ask in (woods.put, woods.take, woods.wood_of):
            for number in odd_things() + FAR + [0, 1]:
                self.assert_refused(NoSuch, ask, number)

    def test_true_and_false_are_no_numbers_though_asked_ahead(self):
        woods = Woods(self.web, 2)
        for number in (0, 1):
            woods.put(number)
            self.assertIn(woods.wood_of(number), (0, 1))
            for ask in (woods.put, woods.take, woods.wood_of):
                self.assert_refused(NoSuch, ask, bool(number))
        self.assertEqual(woods.full(0, 1), [0, 1])
        self.assert_refused(NoPlace, woods.full, False, True)
        self.assert_refused(NoPlace, woods.full, 0, True)
        Woods(self.web, 1)
        self.assert_refused(NoCount, Woods, self.web, True)
        self.assert_refused(NoCount, Woods, self.web, False)

    def test_held_and_not_held(self):
        for number in range(4):
            self.assert_refused(Held, self.woods.put, number)
        self.assert_refused(NotHeld, self.woods.take, 4)
        woods = Woods(self.web, 0)
        self.assert_refused(NotHeld, woods.take, 0)
        woods.put(0)
        self.assert_refused(NotHeld, woods.take, 0)
        woods = Woods(self.web, 1)
        woods.put(0)
        woods.take(0)
        self.assert_refused(NotHeld, woods.take, 0)
        self.assertEqual(woods.put(0), ("put", [(0, 0)]))

    def test_no_place(self):
        for thing in odd_things() + FAR + [4, 5, 9]:
            for a, b in ((thing, 0), (0, thing), (thing, thing), (3, thing), (thing, 3)):
                self.assert_refused(NoPlace, self.woods.full, a, b)
        for place in range(4):
            self.assert_refused(NoPlace, self.woods.full, place, place)
        self.assert_refused(NoPlace, Woods(made_web(1, []), 0).full, 0, 0)
        self.assert_refused(NoPlace, Woods(made_web(1, []), 0).full, 0, 1)
