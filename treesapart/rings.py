"""Rings among ties, woods, which have none, and the ways in them."""


def way_by(web, numbers, a, b):
    """The way from a to b in a wood of these ties: [] from a place to itself, None where none leads there."""
    ways = {a: []}
    reached = [a]
    while reached and b not in ways:
        place = reached.pop()
        for number in numbers:
            ends = web[1][number]
            if place in ends:
                end = sum(ends) - place
                if end not in ways:
                    ways[end] = ways[place] + [number]
                    reached.append(end)
    return ways.get(b)


def ring_in(web, numbers):
    """A ring among these ties, in the order in which one goes round, or None."""
    wood = []
    for number in numbers:
        a, b = web[1][number]
        way = way_by(web, wood, b, a)
        if way is not None:
            return [number] + way
        wood.append(number)
    return None


def is_wood(web, numbers):
    """Whether there is no ring among these ties."""
    return ring_in(web, numbers) is None


def is_tree(web, numbers):
    """Whether these ties hold all places together without a ring."""
    return len(numbers) == web[0] - 1 and is_wood(web, numbers)
