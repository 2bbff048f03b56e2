"""Paths along arcs. An arc is a tuple (deed, worth, target), and stands in the list of its source."""


def path_to(arcs, first, goals):
    """Return the deeds of a shortest path from a number to one of the goals, and that goal.

    goals is a list that has a truth for each number. There must be such a path.
    """
    ways = {first: None}
    met = [first]
    looked = 0
    while not goals[met[looked]]:
        source = met[looked]
        looked += 1
        for deed, _, target in arcs[source]:
            if target not in ways:
                ways[target] = (source, deed)
                met.append(target)
    goal = met[looked]
    deeds = []
    way = ways[goal]
    while way is not None:
        source, deed = way
        deeds.append(deed)
        way = ways[source]
    return (deeds[::-1], goal)


def knots(targets):
    """Return lists of numbers: those from which the arcs lead to one another, ahead of all to which they lead."""
    sources = [[] for _ in targets]
    for at, row in enumerate(targets):
        for target in row:
            sources[target].append(at)
    found = []
    tied = [False] * len(targets)
    for first in reversed(_left_last(targets)):
        if not tied[first]:
            found.append(_tied_to(sources, first, tied))
    return found


def _left_last(targets):
    """Return all numbers, each behind those to which a walk went on from it."""
    left = []
    seen = [False] * len(targets)
    for first in range(len(targets)):
        waiting = [] if seen[first] else [(first, 0)]
        seen[first] = True
        while len(waiting) > 0:
            at, done = waiting.pop()
            if done == len(targets[at]):
                left.append(at)
                continue
            waiting.append((at, done + 1))
            target = targets[at][done]
            if not seen[target]:
                seen[target] = True
                waiting.append((target, 0))
    return left


def _tied_to(sources, first, tied):
    """Return the numbers from which arcs lead to the first one, and that are not tied yet; they are so now."""
    tied[first] = True
    knot = [first]
    looked = 0
    while looked < len(knot):
        for source in sources[knot[looked]]:
            if not tied[source]:
                tied[source] = True
                knot.append(source)
        looked += 1
    return knot
