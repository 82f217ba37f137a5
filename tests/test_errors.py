"""treesapart.errors: the refusals, and the values that three of them bear."""

import unittest

from treesapart import errors

NAMES = ("NoWeb", "TooMany", "NoTie", "NoSuch", "NoCount", "NoPlace", "Held", "NotHeld", "NoMost",
         "NoTrees", "NoStrengths", "NoSpreads", "NoDeed", "NoRow", "NoName")
VALUES = {"NoTie": 3, "NoTrees": [[0], [1, 2]], "NoSpreads": [1, 2]}


def made(name):
    kind = getattr(errors, name)
    return kind(VALUES[name]) if name in VALUES else kind()


class ClassesTest(unittest.TestCase):
    def test_a_tree_error_is_straight_under_value_error(self):
        self.assertEqual(errors.TreeError.__bases__, (ValueError,))
        self.assertIsInstance(errors.TreeError(), ValueError)
        self.assertEqual(str(errors.TreeError("some words")), "some words")

    def test_each_is_straight_under_tree_error(self):
        for name in NAMES:
            with self.subTest(name):
                self.assertEqual(getattr(errors, name).__bases__, (errors.TreeError,))

    def test_each_is_a_tree_error_and_none_of_the_others(self):
        for name in NAMES:
            error = made(name)
            self.assertIsInstance(error, errors.TreeError)
            self.assertIsInstance(error, ValueError)
            for other in NAMES:
                with self.subTest(name, other=other):
                    self.assertEqual(isinstance(error, getattr(errors, other)), name == other)

    def test_each_can_be_raised_and_caught_by_name(self):
        for name in NAMES:
            with self.subTest(name), self.assertRaises(getattr(errors, name)):
                raise made(name)

    def test_those_without_a_value_are_made_of_words_or_of_nothing(self):
        for name in NAMES:
            if name not in VALUES:
                with self.subTest(name):
                    kind = getattr(errors, name)
                    self.assertEqual(str(kind("some words")), "some words")
                    self.assertEqual(str(kind()), "")


class ValuesTest(unittest.TestCase):
    def test_at(self):
        for at in (0, 1, 29, 59):
            self.assertEqual(errors.NoTie(at).at, at)

    def test_parting(self):
        self.assertEqual(errors.NoTrees([[0], [1, 2]]).parting, [[0], [1, 2]])
        self.assertEqual(errors.NoTrees([[0]]).parting, [[0]])

    def test_places(self):
        self.assertEqual(errors.NoSpreads([1, 2]).places, [1, 2])
        self.assertEqual(errors.NoSpreads([4]).places, [4])

    def test_a_value_is_wanted(self):
        for name in VALUES:
            with self.subTest(name), self.assertRaises(TypeError):
                getattr(errors, name)()

    def test_tuples_may_be_handed_in_and_lists_are_told(self):
        self.assertEqual(errors.NoTrees(((0,), (1, 2))).parting, [[0], [1, 2]])
        self.assertEqual(errors.NoTrees([(0,), [1, 2]]).parting, [[0], [1, 2]])
        self.assertEqual(errors.NoSpreads((1, 2)).places, [1, 2])

    def test_what_is_handed_in_is_not_held_on_to(self):
        parting, places = [[0], [1, 2]], [1, 2]
        trees, spreads = errors.NoTrees(parting), errors.NoSpreads(places)
        said = str(trees), str(spreads), repr(trees), repr(spreads)
        parting[1].append(3)
        parting.append([4])
        places.append(3)
        self.assertEqual(trees.parting, [[0], [1, 2]])
        self.assertEqual(spreads.places, [1, 2])
        self.assertEqual((str(trees), str(spreads), repr(trees), repr(spreads)), said)

    def test_the_told_value_is_the_askers_own(self):
        parting, places = [[0], [1, 2]], [1, 2]
        trees, spreads = errors.NoTrees(parting), errors.NoSpreads(places)
        trees.parting[1].append(3)
        trees.parting.append([4])
        spreads.places.append(3)
        self.assertEqual(parting, [[0], [1, 2]])
        self.assertEqual(places, [1, 2])

    def test_no_two_lists_of_a_value_are_one(self):
        part = [0]
        told = errors.NoTrees([part, part]).parting
        told[0].append(9)
        self.assertEqual(told, [[0, 9], [0]])
