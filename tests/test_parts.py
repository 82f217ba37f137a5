"""treesapart.parts: parts that ties make, partings, ties between parts and inside places."""

import copy
import itertools
import unittest

from tests.things import Touchy, as_tuples, odd_things, partings_of, some_numbers, some_webs
from treesapart.layout import made_web
from treesapart.parts import between, inside, is_parting, parts_by


def reached(web, numbers, start):
    """The places to which a way leads from a place along these ties."""
    seen = [start]
    for place in seen:
        for number in numbers:
            tie = web[1][number]
            if place in tie:
                seen += [end for end in tie if end not in seen]
    return sorted(seen)


def parts_by_ways(web, numbers):
    return sorted(set(tuple(reached(web, numbers, place)) for place in range(web[0])))


class PartsByTest(unittest.TestCase):
    def test_ordinary_ones(self):
        web = made_web(6, [(0, 3), (4, 3), (1, 2), (2, 1), (0, 4), (5, 1)])
        self.assertEqual(parts_by(web, []), [[0], [1], [2], [3], [4], [5]])
        self.assertEqual(parts_by(web, [0]), [[0, 3], [1], [2], [4], [5]])
        self.assertEqual(parts_by(web, [1]), [[0], [1], [2], [3, 4], [5]])
        self.assertEqual(parts_by(web, [0, 1]), [[0, 3, 4], [1], [2], [5]])
        self.assertEqual(parts_by(web, [2, 3]), [[0], [1, 2], [3], [4], [5]])
        self.assertEqual(parts_by(web, [0, 1, 2, 3, 4, 5]), [[0, 3, 4], [1, 2, 5]])

    def test_one_place(self):
        self.assertEqual(parts_by(made_web(1, []), []), [[0]])
        self.assertEqual(parts_by(made_web(1, []), ()), [[0]])

    def test_no_ties_and_all_ties(self):
        for web in some_webs():
            every = list(range(len(web[1])))
            self.assertEqual(parts_by(web, []), [[place] for place in range(web[0])])
            self.assertEqual(as_tuples(parts_by(web, every)), tuple(parts_by_ways(web, every)))

    def test_some_ties_as_list_and_as_tuple(self):
        for web in some_webs():
            for numbers in some_numbers(web):
                wanted = [list(part) for part in parts_by_ways(web, numbers)]
                self.assertEqual(parts_by(web, numbers), wanted)
                self.assertEqual(parts_by(web, tuple(numbers)), wanted)

    def test_lines_in_every_order(self):
        line = [(0, 1), (1, 2), (2, 3), (3, 4)]
        for ties in itertools.permutations(line):
            web = made_web(5, list(ties))
            self.assertEqual(parts_by(web, [0, 1, 2, 3]), [[0, 1, 2, 3, 4]])
            for number in range(4):
                cut = ties[number][1]
                others = [other for other in range(4) if other != number]
                self.assertEqual(parts_by(web, others), [list(range(cut)), list(range(cut, 5))])

    def test_every_choice_of_ties_of_four_places(self):
        web = made_web(4, [(0, 3), (1, 2), (1, 3), (0, 2), (2, 3), (0, 1), (3, 1)])
        for many in range(8):
            for numbers in itertools.combinations(range(7), many):
                wanted = [list(part) for part in parts_by_ways(web, numbers)]
                self.assertEqual(parts_by(web, numbers), wanted)
                self.assertIs(is_parting(web, parts_by(web, numbers)), True)

    def test_lists_are_told(self):
        for numbers in ([], (), [0], (0, 1)):
            told = parts_by(made_web(4, [(0, 1), (2, 0)]), numbers)
            self.assertIs(type(told), list)
            self.assertEqual({type(part) for part in told}, {list})

    def test_told_lists_are_the_askers_own(self):
        web = made_web(4, [(0, 1), (1, 2)])
        for numbers in ([], [0], [0, 1]):
            first, second = parts_by(web, numbers), parts_by(web, numbers)
            kept = copy.deepcopy(second)
            first[0].append(9)
            self.assertEqual(first[1:], kept[1:])
            first.append([7])
            self.assertEqual(second, kept)
            self.assertEqual(parts_by(web, numbers), kept)

    def test_what_is_handed_in_stays_and_is_not_held_on_to(self):
        web, numbers = made_web(4, [(0, 1), (1, 2), (2, 3)]), [0, 2]
        told = parts_by(web, numbers)
        self.assertEqual(numbers, [0, 2])
        self.assertEqual(web, (4, ((0, 1), (1, 2), (2, 3))))
        numbers[:] = [1]
        self.assertEqual(told, [[0, 1], [2, 3]])
        self.assertEqual(parts_by(web, numbers), [[0], [1, 2], [3]])


class IsPartingTest(unittest.TestCase):
    def assert_parting(self, places, thing, wanted):
        self.assertIs(is_parting(made_web(places, []), thing), wanted)

    def assert_none(self, places, thing):
        """This is no parting, whether it is handed in by lists or by tuples."""
        for form in (thing, as_tuples(thing), tuple(thing), [tuple(part) for part in thing]):
            self.assert_parting(places, form, False)

    def test_all_partings_as_lists_and_tuples(self):
        for places in range(1, 8):
            for parting in partings_of(places):
                mixed = [tuple(part) if at % 2 else part for at, part in enumerate(parting)]
                others = [part if at % 2 else tuple(part) for at, part in enumerate(parting)]
                for form in (parting, as_tuples(parting), mixed, tuple(mixed), others, tuple(others)):
                    self.assert_parting(places, form, True)

    def test_a_parting_of_other_places_is_none(self):
        for places, other in itertools.product(range(1, 7), range(1, 7)):
            if places != other:
                for parting in partings_of(other):
                    self.assert_parting(places, parting, False)

    def test_nine_places(self):
        self.assert_parting(9, [list(range(9))], True)
        self.assert_parting(9, [[place] for place in range(9)], True)
        self.assert_parting(9, [[0, 8], (1, 3, 5, 7), [2, 4, 6]], True)
        self.assert_none(9, [list(range(10))])
        self.assert_none(9, [list(range(8))])
        self.assert_none(9, [list(range(1, 9))])

    def test_ties_have_no_bearing(self):
        web = made_web(3, [(0, 1), (1, 2), (0, 1)])
        self.assertIs(is_parting(web, [[0, 2], [1]]), True)
        self.assertIs(is_parting(web, [[0, 2]]), False)

    def test_every_way_to_write_three_places(self):
        right = partings_of(3)
        parts = [list(part) for many in range(4) for part in itertools.product(range(4), repeat=many)]
        for many in range(3):
            for thing in itertools.product(parts, repeat=many):
                self.assert_parting(3, list(thing), list(thing) in right)

    def test_parts_without_places(self):
        self.assert_none(1, [])
        self.assert_none(1, [[]])
        self.assert_none(1, [[], [0]])
        self.assert_none(1, [[0], []])
        self.assert_none(3, [[0], [], [1, 2]])
        self.assert_none(3, [[], [0, 1, 2]])

    def test_places_missing_twice_or_beyond(self):
        for thing in ([[0, 1]], [[0], [2]], [[1, 2]], [[0, 1, 2], [2]], [[0, 1], [1, 2]],
                      [[0, 0, 1, 2]], [[0], [0], [1, 2]], [[0, 1, 2], [0, 1, 2]], [[0, 1, 2, 3]],
                      [[0], [1], [2], [3]], [[0, 1], [3]], [[-1, 0, 1, 2]], [[-1], [0, 1, 2]],
                      [[-3, -2, -1]], [[0, 1], [-1]], [[0, 1, 2, 2]], [[0, 1, 10 ** 59]]):
            with self.subTest(thing):
                self.assert_none(3, thing)

    def test_parts_not_sorted_and_a_part_not_rising(self):
        for thing in ([[1], [0, 2]], [[1, 2], [0]], [[2], [1], [0]], [[0], [2], [1]],
                      [[1, 0, 2]], [[0, 2, 1]], [[2, 1, 0]], [[1, 0], [2]], [[0], [2, 1]]):
            with self.subTest(thing):
                self.assert_none(3, thing)

    def test_a_truth_in_a_places_stead(self):
        for thing in ([[False]], [[0, True]], [[False, 1]], [[0], [True]], [[False], [True]],
                      [[False, True]], [[True], [0]]):
            with self.subTest(thing):
                self.assert_none(1, thing)
                self.assert_none(2, thing)

    def test_places_without_parts(self):
        for thing in ([0], (0,), [0, 1], (0, 1), [0, [1]], [[0], 1], [(0,), 1], [[[0], [1]]],
                      [[[0, 1]]], [[(0, 1)]], [[[0]], [[1]]], ([[0], [1]],)):
            with self.subTest(thing):
                self.assert_parting(2, thing, False)

    def test_things_that_look_like_partings(self):
        for thing in ("01", ["0", "1"], ["01"], [["0"], ["1"]], [["0", "1"]], [[0, "1"]], b"\x00\x01",
                      [b"\x00\x01"], [b"\x00", b"\x01"], {0: 1}, {(0,): (1,)}, {(0, 1)}, {(0,), (1,)},
                      [{0, 1}], [{0}, {1}], [{0: 0, 1: 1}], [range(2)], [range(1), range(1, 2)],
                      range(2), [[0], None], [None, [0]], [[0, None]], [[None]], [[0, 1], None],
                      [[0, 1], 0], [[0, 1], "x"], [[0, 1], {}], [[0, 1j]], [[[], 1]], [[{}, 1]]):
            with self.subTest(repr(thing)):
                self.assert_parting(2, thing, False)
        self.assert_parting(2, iter([[0], [1]]), False)
        self.assert_parting(2, (part for part in [[0], [1]]), False)
        self.assert_parting(2, [iter([0, 1])], False)

    def test_things_of_any_kind(self):
        for at, thing in enumerate(odd_things()):
            with self.subTest(at):
                for places in (1, 2, 3, 9):
                    self.assert_parting(places, thing, False)
                    self.assert_parting(places, [[thing]], False)
                    self.assert_parting(places, [[0], [1], thing], False)
                    self.assert_parting(places, [[0, thing], [1]], False)
                    self.assert_parting(places, [[thing, 0], [1]], False)
                    self.assert_parting(places, (thing, [0, 1, 2]), False)

    def test_nothing_is_asked_of_things_of_other_kinds(self):
        self.assert_parting(2, Touchy(), False)
        self.assert_parting(2, [Touchy(), Touchy()], False)
        self.assert_parting(2, [[Touchy()], [Touchy(), Touchy()]], False)

    def test_what_is_handed_in_stays(self):
        for thing in ([[0, 2], [1]], [[1], [2, 0]], [[2, 1, 0]], [[0], (2, 1)], [[0], [], None]):
            kept = copy.deepcopy(thing)
            first = is_parting(made_web(3, []), thing)
            self.assertEqual(thing, kept)
            self.assertIs(is_parting(made_web(3, []), thing), first)

    def test_what_is_changed_is_looked_at_anew(self):
        web, thing = made_web(3, []), [[0], [1, 2]]
        self.assertIs(is_parting(web, thing), True)
        thing[1].pop()
        self.assertIs(is_parting(web, thing), False)
        thing.append([2])
        self.assertIs(is_parting(web, thing), True)


class BetweenTest(unittest.TestCase):
    def test_ordinary_ones(self):
        web = made_web(4, [(0, 1), (2, 3), (1, 2), (3, 0), (2, 1), (0, 2)])
        self.assertEqual(between(web, [[0, 1], [2, 3]]), [2, 3, 4, 5])
        self.assertEqual(between(web, [[0], [1, 2], [3]]), [0, 1, 3, 5])
        self.assertEqual(between(web, [[0, 2], [1, 3]]), [0, 1, 2, 3, 4])

    def test_one_part_and_parts_of_one_place(self):
        for web in some_webs():
            self.assertEqual(between(web, [list(range(web[0]))]), [])
            self.assertEqual(between(web, (tuple(range(web[0])),)), [])
            alone = [[place] for place in range(web[0])]
            self.assertEqual(between(web, alone), list(range(len(web[1]))))
            self.assertEqual(between(web, as_tuples(alone)), list(range(len(web[1]))))

    def test_all_partings_as_lists_and_tuples(self):
        for web in some_webs():
            for parting in partings_of(web[0])[::1 + web[0] ** 2 // 9]:
                wanted = [number for number, tie in enumerate(web[1])
                          if not any(tie[0] in part and tie[1] in part for part in parting)]
                mixed = [tuple(part) if at % 2 else part for at, part in enumerate(parting)]
                for form in (parting, as_tuples(parting), mixed, tuple(mixed)):
                    self.assertEqual(between(web, form), wanted)

    def test_several_ties_with_the_same_ends(self):
        web = made_web(3, [(0, 1), (1, 0), (1, 2), (0, 1), (2, 1)])
        self.assertEqual(between(web, [[0], [1, 2]]), [0, 1, 3])
        self.assertEqual(between(web, [[0, 1], [2]]), [2, 4])
        self.assertEqual(between(web, [[0, 2], [1]]), [0, 1, 2, 3, 4])

    def test_one_place_and_no_ties(self):
        self.assertEqual(between(made_web(1, []), [[0]]), [])
        self.assertEqual(between(made_web(3, []), [[0], [1], [2]]), [])

    def test_told_lists_are_the_askers_own_and_what_is_handed_in_stays(self):
        web, parting = made_web(3, [(0, 1), (1, 2)]), [[0], [1, 2]]
        first, second = between(web, parting), between(web, parting)
        self.assertIs(type(first), list)
        first.append(9)
        self.assertEqual((second, between(web, parting)), ([0], [0]))
        self.assertEqual(parting, [[0], [1, 2]])
        parting[:] = [[0, 1], [2]]
        self.assertEqual((second, between(web, parting)), ([0], [1]))
        none = between(web, [[0, 1, 2]])
        none.append(9)
        self.assertEqual(between(web, [[0, 1, 2]]), [])


class InsideTest(unittest.TestCase):
    def test_ordinary_ones(self):
        web = made_web(4, [(0, 1), (2, 3), (1, 2), (3, 0), (2, 1), (0, 2)])
        self.assertEqual(inside(web, [1, 2]), [2, 4])
        self.assertEqual(inside(web, [0, 1, 2]), [0, 2, 4, 5])
        self.assertEqual(inside(web, [1, 3]), [])
        self.assertEqual(inside(web, [0, 3]), [3])

    def test_no_places_one_place_and_all_places(self):
        for web in some_webs():
            every = list(range(web[0]))
            self.assertEqual(inside(web, []), [])
            self.assertEqual(inside(web, ()), [])
            for place in every:
                self.assertEqual(inside(web, [place]), [])
            self.assertEqual(inside(web, every), list(range(len(web[1]))))
            self.assertEqual(inside(web, tuple(every)), list(range(len(web[1]))))

    def test_every_choice_of_places(self):
        for web in some_webs():
            for many in range(web[0] + 1):
                for places in itertools.combinations(range(web[0]), many):
                    wanted = [number for number, tie in enumerate(web[1]) if set(tie) <= set(places)]
                    self.assertEqual(inside(web, places), wanted)
                    self.assertEqual(inside(web, list(places)), wanted)

    def test_several_ties_with_the_same_ends(self):
        web = made_web(3, [(0, 1), (1, 0), (1, 2), (0, 1), (2, 1)])
        self.assertEqual(inside(web, [0, 1]), [0, 1, 3])
        self.assertEqual(inside(web, [1, 2]), [2, 4])
        self.assertEqual(inside(web, [0, 2]), [])

    def test_told_lists_are_the_askers_own_and_what_is_handed_in_stays(self):
        web, places = made_web(3, [(0, 1), (1, 2)]), [0, 1]
        first, second = inside(web, places), inside(web, places)
        self.assertIs(type(first), list)
        first.append(9)
        self.assertEqual((second, inside(web, places)), ([0], [0]))
        self.assertEqual(places, [0, 1])
        places[:] = [1, 2]
        self.assertEqual((second, inside(web, places)), ([0], [1]))
        none = inside(web, [])
        none.append(9)
        self.assertEqual(inside(web, []), [])
