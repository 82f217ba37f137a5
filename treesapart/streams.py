"""Greatest flows in a net of nodes and lanes; a lane is a tuple of the nodes from and to which it leads."""


def greatest_flow(nodes, lanes, strengths, start, goal):
    """(flow, reached): a greatest flow from start to goal, and the nodes to which more could come.

    The lanes that lead out of the reached nodes are used up, and none leads flow back to them.
    """
    exits = exits_of(nodes, lanes)
    # What can still go along lane n, and what can be sent back along it, stand at 2n and 2n + 1.
    room = [part for strength in strengths for part in (strength, 0)]
    ways = ways_from(exits, room, start)
    while goal in ways:
        push_along(ways[goal], room)
        ways = ways_from(exits, room, start)
    return (room[1::2], sorted(ways))


def exits_of(nodes, lanes):
    """For each node the tuples (step, end) by which one leaves it: along its lanes, and back along others."""
    exits = [[] for node in range(nodes)]
    for number, (a, b) in enumerate(lanes):
        exits[a].append((2 * number, b))
        exits[b].append((2 * number + 1, a))
    return exits


def ways_from(exits, room, start):
    """For each node that can be reached a way of fewest steps to it.

    Ways of fewest steps keep their number small, however great the strengths are.
    """
    ways = {start: []}
    met = [start]
    at = 0
    while at < len(met):
        node = met[at]
        for step, end in exits[node]:
            if room[step] > 0 and end not in ways:
                ways[end] = ways[node] + [step]
                met.append(end)
        at += 1
    return ways


def push_along(way, room):
    """Send as much along a way as there is room for."""
    amount = min([room[step] for step in way])
    for step in way:
        room[step] -= amount
        room[step ^ 1] += amount
