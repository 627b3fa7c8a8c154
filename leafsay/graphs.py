"""Graphs: dicts that tell for each node on which others it hangs directly, and the rings in them."""

from leafsay.errors import Ring


# Keeps the open nodes in a list: a chain of nodes may be far longer than functions may call one another.
def settle(graph, start, looked_at, settled):
    trail = [start]
    # Of each node that was met, how many of those on which it hangs were looked at.
    looked_at[start] = 0
    while trail:
        node = trail[-1]
        if looked_at[node] == len(graph[node]):
            settled[node] = True
            trail.pop()
        else:
            lower = graph[node][looked_at[node]]
            looked_at[node] += 1
            if lower not in looked_at:
                trail.append(lower)
                looked_at[lower] = 0
            elif lower not in settled:
                raise Ring(trail[trail.index(lower):])


def order_of(graph):
    looked_at = {}
    settled = {}
    for node in graph:
        if node not in settled:
            settle(graph, node, looked_at, settled)
    return list(settled)


def order_from(graph, node):
    settled = {}
    settle(graph, node, {}, settled)
    return list(settled)


def ring_in(graph):
    try:
        order_of(graph)
    except Ring as found:
        return found.ring
    return None


def steps_from(graph, node):
    # For each node on which this one hangs the one from which it was met first, so by a way of the fewest steps.
    came_from = {}
    waiting = [node]
    place = 0
    while place < len(waiting):
        upper = waiting[place]
        for lower in graph[upper]:
            if lower not in came_from:
                came_from[lower] = upper
                waiting.append(lower)
        place += 1
    return came_from


def reached(graph, node):
    return list(steps_from(graph, node))


def way_in(graph, one, other):
    came_from = steps_from(graph, one)
    if other not in came_from:
        return None
    way = [other]
    node = came_from[other]
    while node != one:
        way.append(node)
        node = came_from[node]
    return [one] + list(reversed(way))
