"""Ties that make room for one another, so that woods which share no tie hold more of them.

Where the ties of a web stand is told by homes: a list with, for each tie, the number of the wood
that holds it, or None. There may be any number of woods here; the callers refuse too many.
"""

from treesapart.parts import joined
from treesapart.rings import way_by


def woods_by(homes, many):
    """The numbers of the ties in each of so many woods."""
    woods = [[] for wood in range(many)]
    for number, home in enumerate(homes):
        if home is not None:
            woods[home].append(number)
    return woods


def exchange(web, homes, many, number):
    """How a tie that stands nowhere can be held, too: ("put", moves), or else ("full", places)."""
    woods = woods_by(homes, many)
    # The ties are met in the order of the shortest rows of exchanges that lead to them, since
    # a longer row may leave a ring; after says which tie takes a met one's stead.
    after = {number: None}
    met = [number]
    at = 0
    while at < len(met):
        tie = met[at]
        a, b = web[1][tie]
        for wood in range(many):
            way = way_by(web, woods[wood], a, b)
            if way is None:
                return ("put", moves_to(homes, after, tie, wood))
            # A tie that stands in this wood is its own way there, and is met already.
            fresh = [other for other in way if other not in after]
            after.update({other: tie for other in fresh})
            met.extend(fresh)
        at += 1
    # In each wood the way beside any met tie is of met ties, which therefore hold all their
    # places together there.
    return ("full", sorted({place for tie in met for place in web[1][tie]}))


def moves_to(homes, after, tie, wood):
    """The moves, the put tie's first, of the row of exchanges that ends with a tie going to a free wood."""
    moves = []
    while tie is not None:
        moves.append((tie, wood))
        wood = homes[tie]
        tie = after[tie]
    return moves[::-1]


def put_tie(web, homes, many, number):
    """Put a tie where it can be held, changing homes, and tell what exchange does."""
    told = exchange(web, homes, many, number)
    if told[0] == "put":
        for tie, wood in told[1]:
            homes[tie] = wood
    return told


def packed(web, many, numbers):
    """The homes when each of these ties has been put into so many woods, or found without room."""
    homes = [None for tie in web[1]]
    for number in numbers:
        put_tie(web, homes, many, number)
    return homes


def full_with(web, homes, many, a, b):
    """The fewest full places that have both a and b, or None where no full places have."""
    # They are what stands in the way of one more tie from a to b.
    longer = (web[0], web[1] + ((a, b),))
    kind, told = exchange(longer, homes + [None], many, len(homes))
    return told if kind == "full" else None


def full_parting(web, homes, many):
    """The parting into the greatest full places, and each of the other places alone.

    When all ties have been put, those that found no room lie inside its parts. So all that go
    between are held, fewer than would make full places of several parts.
    """
    found = [full_with(web, homes, many, a, b) for b in range(web[0]) for a in range(b)]
    # Full places that share a place are full together.
    return joined(web[0], [full for full in found if full is not None])
