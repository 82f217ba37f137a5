"""Groves: places with ties, or lanes, that come and go."""

from treesapart.checks import refuse_count, refuse_place, refuse_strength, refuse_two_places
from treesapart.errors import NoDeed, NoSuch, TooMany
from treesapart.flows import most_out
from treesapart.layout import MOST_LANES, MOST_TIES, MOST_TREES, is_whole, refuse_size
from treesapart.sharing import most_share
from treesapart.spreads import lane_use, spreads_or_places
from treesapart.strong import strong_trees
from treesapart.uses import least_use


def renumbered(told, numbers):
    """The same answer, its ties by these numbers; places stay as they are."""
    kind, lists = told
    if kind == "trees" or kind == "spreads":
        return (kind, [[numbers[at] for at in one] for one in lists])
    return told


class Grove:
    """So many places, and the ties, or lanes, that stand between them."""

    def __init__(self, places, one_way=False):
        refuse_size(places)
        self.places = places
        self.one_way = one_way
        self.given = 0
        # Tuples (number, a, b, strength), rising. A deed makes a list of its own, so that the
        # ones before it, and those that were undone, can stand again as they were.
        self.standing = []
        self.before = []
        self.undone = []

    def put(self, a, b, strength):
        """Put a tie between two places, or a lane from a to b; its number."""
        refuse_two_places(self.laid_out(), a, b)
        refuse_strength(strength)
        if len(self.standing) >= (MOST_LANES if self.one_way else MOST_TIES):
            raise TooMany("as many stand as may")
        number = self.given
        # It never goes back, so that the number of a put that is undone is given to no other one.
        self.given += 1
        ends = (a, b) if self.one_way else (min(a, b), max(a, b))
        self.become(self.standing + [(number, ends[0], ends[1], strength)])
        return number

    def take(self, number):
        """Take a tie, which stands no more."""
        at = self.spot_of(number)
        self.become(self.standing[:at] + self.standing[at + 1:])

    def strengthen(self, number, strength):
        """Make a tie of a strength."""
        at = self.spot_of(number)
        refuse_strength(strength)
        standing = list(self.standing)
        standing[at] = standing[at][:3] + (strength,)
        self.become(standing)

    def become(self, standing):
        """Let these stand by a new deed."""
        self.before.append(self.standing)
        self.undone = []
        self.standing = standing

    def back(self):
        """Undo the last deed that isn't undone."""
        if not self.before:
            raise NoDeed("there is no deed to undo")
        self.undone.append(self.standing)
        self.standing = self.before.pop()

    def again(self):
        """Do the deed that was undone last once more."""
        if not self.undone:
            raise NoDeed("there is no deed to do again")
        self.before.append(self.standing)
        self.standing = self.undone.pop()

    def ties(self):
        """Tuples (number, a, b, strength) of those that stand, rising."""
        return list(self.standing)

    def most(self, root=0):
        """The greatest k for which there is a share, of lanes flows out of the root."""
        web = self.laid_out()
        refuse_place(web, root)
        if self.one_way:
            return most_out(web, self.strengths(), root)[0]
        return most_share(web, self.strengths())[0]

    def trees(self, k, root=0):
        """k trees by strengths or a parting, of lanes k spreads or places."""
        web = self.laid_out()
        refuse_place(web, root)
        if self.one_way:
            told = spreads_or_places(web, self.strengths(), root, k)
        else:
            told = strong_trees(web, self.strengths(), k)
        return renumbered(told, self.numbers())

    def least(self, k, number, root=0):
        """The least use of a tie by k trees, of a lane by k spreads."""
        web = self.laid_out()
        refuse_place(web, root)
        refuse_count(k, 1, MOST_TREES)
        at = self.spot_of(number)
        if self.one_way:
            return lane_use(web, self.strengths(), root, k, at)[0]
        return least_use(web, self.strengths(), k, at)[0]

    def laid_out(self):
        """The web, or lane web, of those that stand."""
        return (self.places, tuple((a, b) for number, a, b, strength in self.standing))

    def strengths(self):
        """Their strengths."""
        return [strength for number, a, b, strength in self.standing]

    def numbers(self):
        """Their numbers."""
        return [number for number, a, b, strength in self.standing]

    def spot_of(self, number):
        """Where a tie stands among the others, by its number."""
        numbers = self.numbers()
        if not is_whole(number) or number not in numbers:
            raise NoSuch("no tie stands by this number")
        return numbers.index(number)
