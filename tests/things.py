"""What several tests need: things of any kind, and webs to look at."""

import functools
import itertools

from treesapart.layout import made_web


class Touchy:
    """A thing that nothing can be asked of."""

    def refuse(self, *told):
        raise RuntimeError("this thing was looked into")

    __eq__ = __ne__ = __lt__ = __le__ = __gt__ = __ge__ = refuse
    __len__ = __iter__ = __bool__ = __contains__ = __getitem__ = refuse
    __int__ = __index__ = __str__ = __repr__ = refuse
    __hash__ = None


class Plain:
    pass


def own_list():
    thing = []
    thing.append(thing)
    return thing


def deep_list():
    thing = []
    for _ in range(5000):
        thing = [thing]
    return thing


def deep_tuple():
    thing = ()
    for _ in range(5000):
        thing = (thing,)
    return thing


def odd_things():
    """Things that are no whole number, no place, no tie and no parting."""
    return [
        None, True, False, "", "0", "1", "01", "ab", "a\nb", b"", b"\x01", b"01",
        [], [0, 1], [[]], [()], [None], [True], ["0"],
        (), (0,), (0, 1, 2), ((),), (None,), (0, None), (None, 0), ("0", "1"),
        {}, {0: 1}, {0, 1}, frozenset([0, 1]), range(2), range(0, 9),
        bytearray(b"01"), 1j, len, int, Plain, Plain(), ValueError("x"),
        itertools.count(), iter([0, 1]), (x for x in [0, 1]),
        Touchy(), [Touchy()], (Touchy(),), (0, Touchy()), (Touchy(), 0),
        own_list(), deep_list(), deep_tuple(), NotImplemented, ...,
    ]


def odd_amounts():
    """Things that are no whole number from 0 on."""
    return odd_things() + [-1, -2, -10 ** 59]


def odd_from(low, beyond):
    """Things that are no whole number from low to beyond - 1."""
    return odd_things() + [low - 1, low - 2, -10 ** 59, beyond, beyond + 1, 10 ** 59]


def some_webs():
    """Webs of all sizes: bare ones, full ones, rings, lines, and ties that lie beside others."""
    webs = [made_web(places, []) for places in range(1, 10)]
    for places in range(2, 10):
        pairs = list(itertools.combinations(range(places), 2))
        webs.append(made_web(places, pairs[:30]))
        webs.append(made_web(places, [(at, at + 1) for at in range(places - 1)]))
        webs.append(made_web(places, [(at, (at + 1) % places) for at in range(places)]))
        webs.append(made_web(places, [(0, places - 1)] * 30))
        # Pairs in an order that mixes near places with far ones.
        webs.append(made_web(places, [pairs[at * 7 % len(pairs)] for at in range(11)]))
        webs.append(made_web(places, [pairs[at * at * 5 % len(pairs)][::-1] for at in range(6)]))
    return webs


def some_numbers(web):
    """Several rising lists of ties of a web, without any and with all of them among these."""
    every = range(len(web[1]))
    chosen = [list(every)[:start] for start in range(0, len(every) + 1, 3)]
    chosen += [list(every)[start::step] for start in range(3) for step in (1, 2, 3, 5)]
    return chosen + [list(every)]


@functools.cache
def partings_of(places):
    """All partings of so many places, each as a sorted list of rising lists, for looking at only."""
    found = [[[0]]]
    for place in range(1, places):
        found = [grown for parting in found for grown in grown_by(parting, place)]
    return found


def grown_by(parting, place):
    """The partings that a parting becomes when one more place is put into it."""
    grown = [parting[:at] + [parting[at] + [place]] + parting[at + 1:] for at in range(len(parting))]
    return grown + [parting + [[place]]]


def as_tuples(lists):
    return tuple(tuple(one) for one in lists)
