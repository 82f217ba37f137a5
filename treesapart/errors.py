"""The refusals: each one is a TreeError, and none is another one."""


class TreeError(ValueError):
    """Any refusal."""


class NoWeb(TreeError):
    """What is handed in for how many places there are is no whole number from 1 to 9."""


class TooMany(TreeError):
    """There are more ties, or lanes, than may be."""


class NoTie(TreeError):
    """Something in a list is no tie, or lane; at is the number of the first such one."""

    def __init__(self, at):
        super().__init__(f"number {at} of the list is no tuple of two unlike places")
        self.at = at


class NoSuch(TreeError):
    """This is the number of no tie, or lane."""


class NoCount(TreeError):
    """This is no number of trees, woods or spreads that may be asked for."""


class NoPlace(TreeError):
    """This is no place, or the same place as the other one."""


class Held(TreeError):
    """The tie stands in a wood already."""


class NotHeld(TreeError):
    """The tie stands in no wood."""


class NoMost(TreeError):
    """Of one place there is no greatest number."""


class NoTrees(TreeError):
    """There are no such trees; parting is what stands in their way."""

    def __init__(self, parting):
        # Words of its own, since Python would else keep the list that was handed in.
        super().__init__("too few ties go between the parts of a parting")
        self.parting = [list(part) for part in parting]


class NoStrengths(TreeError):
    """These are no strengths."""


class NoSpreads(TreeError):
    """There are no such spreads; places are what stands in their way."""

    def __init__(self, places):
        # Words of its own, since Python would else keep the list that was handed in.
        super().__init__("too few lanes enter some places")
        self.places = list(places)


class NoDeed(TreeError):
    """There is no deed to undo, or to do again."""


class NoRow(TreeError):
    """This is no row that a desk knows."""


class NoName(TreeError):
    """This is no name, or no grove is kept by it."""
