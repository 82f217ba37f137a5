"""The whole program: its interface, and all that can be told, asked by turns."""

import copy
import importlib
import inspect
import random

from tests.papers import Papers, lists_in
from tests.webs import GREAT, LANE_EDGES, many_lane_webs, many_webs, strengths_for
from treesapart.covers import evened, fewest_woods, woods_or_thick
from treesapart.desk import Desk
from treesapart.errors import NoSpreads, NoTrees, TreeError
from treesapart.firm import firm_parts, used
from treesapart.flows import flow, flows_or_places, most_out
from treesapart.groves import Grove
from treesapart.growing import Woods
from treesapart.joins import split_lanes, turned_out
from treesapart.lanes import entering, made_lanes
from treesapart.layout import made_web
from treesapart.packing import most_trees, trees_or_parting
from treesapart.parts import between, inside, is_parting, parts_by
from treesapart.rings import is_tree, is_wood, ring_in, way_by
from treesapart.sharing import most_share, share_or_parting
from treesapart.splits import fewest_for, splits_or_thick
from treesapart.spreads import is_spread, lane_use, spreads_or_places
from treesapart.strong import strong_trees
from treesapart.uses import least_use

FUNCTIONS = """
layout made_web places ties
parts parts_by web numbers
parts is_parting web thing
parts between web parting
parts inside web places
rings is_wood web numbers
rings is_tree web numbers
rings ring_in web numbers
rings way_by web numbers a b
packing trees_or_parting web k
packing most_trees web
firm firm_parts web k
firm used web k number
covers woods_or_thick web many
covers fewest_woods web
covers evened web woods
sharing share_or_parting web strengths k
sharing most_share web strengths
uses least_use web strengths k number
strong strong_trees web strengths k
splits splits_or_thick web strengths many
splits fewest_for web strengths
lanes made_lanes places lanes
lanes entering lane_web places
flows flow lane_web strengths start goal
flows flows_or_places lane_web strengths root k
flows most_out lane_web strengths root
spreads is_spread lane_web root numbers
spreads spreads_or_places lane_web strengths root k
spreads lane_use lane_web strengths root k number
joins turned_out web trees root
joins split_lanes web share split
""".strip().split("\n")

CLASSES = """
growing Woods __init__ web many
growing Woods put number
growing Woods take number
growing Woods wood_of number
growing Woods woods
growing Woods left
growing Woods full a b
growing Woods copied
groves Grove __init__ places one_way=False
groves Grove put a b strength
groves Grove take number
groves Grove strengthen number strength
groves Grove back
groves Grove again
groves Grove ties
groves Grove most root=0
groves Grove trees k root=0
groves Grove least k number root=0
desk Desk __init__
desk Desk say row
""".strip().split("\n")


def handed_to(called):
    """What a function takes, as words."""
    return [str(one) for one in inspect.signature(called).parameters.values()]


class InterfaceTest(Papers):
    def test_functions(self):
        for line in FUNCTIONS:
            module, name, *handed = line.split(" ")
            self.assertEqual(handed_to(getattr(importlib.import_module("treesapart." + module), name)), handed, line)

    def test_classes_and_their_own_methods(self):
        for line in CLASSES:
            module, kind, name, *handed = line.split(" ")
            methods = vars(getattr(importlib.import_module("treesapart." + module), kind))
            self.assertIn(name, methods)
            self.assertEqual(handed_to(methods[name]), ["self"] + handed, line)


def value_of(ask):
    """What is told, or the refusal's name and value."""
    try:
        return ask()
    except TreeError as refusal:
        value = getattr(refusal, "parting", getattr(refusal, "places", None))
        return type(refusal).__name__, value


def asked_of_web(web, strengths, k):
    """All that a web is asked."""
    numbers = list(range(len(web[1])))
    alone = [[place] for place in range(web[0])]
    return [
        lambda: made_web(web[0], web[1]), lambda: parts_by(web, numbers[::2]), lambda: is_parting(web, alone),
        lambda: between(web, alone), lambda: inside(web, list(range(web[0] // 2))), lambda: is_wood(web, numbers),
        lambda: is_tree(web, numbers), lambda: ring_in(web, numbers), lambda: way_by(web, numbers[:1], 0, 1),
        lambda: trees_or_parting(web, k), lambda: most_trees(web), lambda: firm_parts(web, k),
        lambda: used(web, k, 0), lambda: woods_or_thick(web, k), lambda: fewest_woods(web),
        lambda: evened(web, fewest_woods(web)[0]), lambda: share_or_parting(web, strengths, k),
        lambda: most_share(web, strengths), lambda: least_use(web, strengths, k, 0),
        lambda: strong_trees(web, strengths, k), lambda: splits_or_thick(web, strengths, k),
        lambda: fewest_for(web, strengths), lambda: turned_out(web, most_trees(web)[1], 0),
        lambda: [split_lanes(web, most_share(web, strengths)[1], split) for split in most_share(web, strengths)[2]],
    ]


def asked_of_lanes(lane_web, strengths, k):
    """All that a lane web is asked."""
    numbers = list(range(len(lane_web[1])))
    return [
        lambda: made_lanes(lane_web[0], lane_web[1]), lambda: entering(lane_web, [0]),
        lambda: flow(lane_web, strengths, 0, 1), lambda: flows_or_places(lane_web, strengths, 0, k),
        lambda: most_out(lane_web, strengths, 0), lambda: is_spread(lane_web, 0, numbers),
        lambda: spreads_or_places(lane_web, strengths, 0, k), lambda: lane_use(lane_web, strengths, 0, k, 0),
    ]


def asked_of_woods(web, k):
    """All that woods are asked, which are as they are."""
    woods = Woods(web, k)
    for number in range(0, len(web[1]), 2):
        woods.put(number)
    return [woods.woods, woods.left, lambda: woods.wood_of(0), lambda: woods.full(0, 1), woods.copied().woods,
            lambda: woods.copied().put(1), lambda: woods.copied().take(0)]


def asked_of_grove(web, strengths, k, one_way):
    """All that a grove and a desk are asked, which are as they are."""
    grove, desk = Grove(web[0], one_way), Desk()
    desk.say(f"{'lanes' if one_way else 'grove'} a {web[0]}")
    for (a, b), strength in zip(web[1], strengths):
        grove.put(a, b, strength)
        desk.say(f"put a {a} {b} {strength}")
    rows = ("show a", "most a 0", f"trees a {k} 0", f"least a {k} 0 0")
    return [grove.ties, grove.most, lambda: grove.trees(k), lambda: grove.least(k, 0),
            *[lambda row=row: desk.say(row) for row in rows]]


class AllByTurnsTest(Papers):
    def assert_by_turns(self, rng, asks):
        """Whatever is done to what was told, and in whatever order all is asked again, the same is told."""
        first = [value_of(ask) for ask in asks]
        kept = copy.deepcopy(first)
        for told in first:
            for one in lists_in(told):
                one[:] = one[::-1] + [GREAT]
        for _ in range(3):
            for at in rng.sample(range(len(asks)), len(asks)):
                told = value_of(asks[at])
                self.assertEqual(told, kept[at])
                lists = lists_in(told)
                self.assertEqual(len({id(one) for one in lists}), len(lists))
                for one in lists:
                    one.clear()

    def test_all_of_webs(self):
        rng = random.Random(171)
        for web in [web for web in many_webs(171, 12) if len(web[1]) > 1]:
            for strengths in rng.sample(strengths_for(web, rng), 2):
                k, kept = rng.randint(1, 4), list(strengths)
                asks = asked_of_web(web, strengths, k) + asked_of_woods(web, k)
                self.assert_by_turns(rng, asks + asked_of_grove(web, strengths, k, False))
                self.assertEqual(strengths, kept)

    def test_all_of_lane_webs(self):
        rng = random.Random(172)
        for lane_web in [one for one in LANE_EDGES + many_lane_webs(172, 24) if one[1]]:
            for strengths in rng.sample(strengths_for(lane_web, rng), 3):
                k, kept = rng.randint(1, 4), list(strengths)
                asks = asked_of_lanes(lane_web, strengths, k)
                self.assert_by_turns(rng, asks + asked_of_grove(lane_web, strengths, k, True))
                self.assertEqual(strengths, kept)

    def test_refusals_have_values_of_their_own(self):
        web, lane_web = made_web(3, [(0, 1)]), made_lanes(3, [(0, 1)])
        for kind, name, ask in ((NoTrees, "parting", lambda: used(web, 1, 0)),
                                (NoTrees, "parting", lambda: least_use(web, [1], 1, 0)),
                                (NoSpreads, "places", lambda: lane_use(lane_web, [1], 0, 1, 0))):
            first, second = self.assert_refused(kind, ask), self.assert_refused(kind, ask)
            kept = copy.deepcopy(getattr(second, name))
            getattr(first, name).clear()
            self.assertEqual(getattr(second, name), kept)
            self.assertEqual(getattr(self.assert_refused(kind, ask), name), kept)

    def test_webs_and_lane_webs_that_are_told_may_be_handed_in(self):
        web = made_web(4, [(0, 1), (1, 2), (2, 3), (0, 3), (0, 2), (1, 3)])
        k, trees, parting = most_trees(web)
        lane_web, spreads = turned_out(web, trees, 3)
        self.assertTrue(all(is_spread(lane_web, 3, spread) for spread in spreads))
        self.assertEqual(spreads_or_places(lane_web, [1] * len(lane_web[1]), 3, k)[0], "spreads")
        # What is told of the greatest strengths is longer than what may be handed in else.
        great = [10 ** 60 - 1] * 6
        k, share, splits, parting = most_share(web, great)
        self.assertGreater(k, 10 ** 60)
        self.assertEqual(share_or_parting(web, share, k)[0], "share")
        self.assertEqual(share_or_parting(web, great, k + 1)[0], "parting")
        lane_web, strong = split_lanes(web, share, splits[2])
        self.assertEqual(flows_or_places(lane_web, strong, 2, k)[0], "flows")
        self.assertEqual(most_out(lane_web, strong, 2)[0], k)
