"""Wishes that quiet deeds must be able to bring about from each reached state."""

from rowqueue.kinds import is_integer
from rowqueue.machine import is_state, is_weaving, play, start, step
from rowqueue.webs import are_closed, explored

QUIET_WORDS = ("part", "put", "slow", "tick")


def can_come(scene, wish, *, most=1000):
    """Return ("holds", numbers) if a wish can come from each reached state, or ("breaks", weaving, trap)."""
    meeting, moves = explored(scene, scene.deeds(), most)
    ways = [[target for deed, _, target in row if deed[0] in QUIET_WORDS] for row in moves]
    numbers = _distances(ways, [at for at, state in enumerate(meeting.met) if _meets(wish, state)])
    if None not in numbers:
        return ("holds", sorted([(state, numbers[at]) for at, state in enumerate(meeting.met)]))
    at = numbers.index(None)
    return ("breaks", meeting.weaving_to(at), sorted([meeting.met[number] for number in _flooded(ways, at)]))


def _meets(wish, state):
    """Return whether a state meets a wish."""
    there = [row for row in state[0] if row[0] != "yet"]
    if wish == "effect":
        return all([row[3] > 0 for row in there])
    return all([row[0] in ("done", "dead") for row in there])


def _distances(ways, goals):
    """Return for each number how few steps of the ways lead from it to a goal, or None."""
    sources = [[] for _ in ways]
    for at, targets in enumerate(ways):
        for target in targets:
            sources[target].append(at)
    numbers = [None] * len(ways)
    for at in goals:
        numbers[at] = 0
    met = list(goals)
    looked = 0
    while looked < len(met):
        target = met[looked]
        looked += 1
        for at in sources[target]:
            if numbers[at] is None:
                numbers[at] = numbers[target] + 1
                met.append(at)
    return numbers


def _flooded(ways, first):
    """Return all numbers to which the ways lead from a first one, itself included."""
    found = {first: True}
    waiting = [first]
    while len(waiting) > 0:
        for target in ways[waiting.pop()]:
            if target not in found:
                found[target] = True
                waiting.append(target)
    return list(found)


def _quiet_deeds(scene):
    return [deed for deed in scene.deeds() if deed[0] in QUIET_WORDS]


def is_ranked(scene, wish, thing):
    """Return whether any value is a list of tuples (state, number) that shows that a wish can come."""
    if not isinstance(thing, list) or not all([_is_ranked_state(scene, item) for item in thing]):
        return False
    ranks = {state: number for state, number in thing}
    if len(ranks) < len(thing) or start(scene) not in ranks or not are_closed(scene, list(ranks), scene.deeds()):
        return False
    deeds = _quiet_deeds(scene)
    return all([_is_rank(scene, wish, ranks, state, deeds) for state in ranks])


def _is_ranked_state(scene, thing):
    return isinstance(thing, tuple) and len(thing) == 2 and is_state(scene, thing[0]) and is_integer(thing[1])


def _is_rank(scene, wish, ranks, state, deeds):
    """Return whether a state has its number among the numbers of the states."""
    if _meets(wish, state):
        return ranks[state] == 0
    # No other state can have 0: from it the numbers would have to go on below 0 without an end.
    return min([ranks[step(scene, state, deed)[0]] for deed in deeds]) == ranks[state] - 1


def is_trap(scene, wish, weaving, thing):
    """Return whether a weaving leads into a list of states from which a wish cannot come."""
    if not is_weaving(scene, weaving) or not isinstance(thing, list):
        return False
    if not all([is_state(scene, state) and not _meets(wish, state) for state in thing]):
        return False
    last, _ = play(scene, weaving)
    different = len(set(thing)) == len(thing)
    return different and last in thing and are_closed(scene, thing, _quiet_deeds(scene))
