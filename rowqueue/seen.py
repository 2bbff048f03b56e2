"""What a log shows of a scene: the weavings that show it, their number, and the states to which they lead."""

from rowqueue.errors import NoWeaving
from rowqueue.machine import is_state, start, step
from rowqueue.webs import Meeting

UNSEEN = ()


def possible(scene, log, *, most=1000):
    """Return ("possible", weaving, states) if a weaving shows a log, or ("impossible", at, sets)."""
    meeting, _ = _shown(scene, log, most)
    numbers = [shown for shown, _ in meeting.met]
    farthest = max(numbers)
    if farthest == len(log):
        return ("possible", meeting.weaving_to(numbers.index(farthest)), _states_with(meeting, farthest))
    return ("impossible", farthest, [_states_with(meeting, shown) for shown in range(farthest + 1)])


def _shown(scene, log, most):
    """Return the meeting of all pairs (number of items, state), and the list of the ways on from each of them.

    A pair is met if a weaving leads to the state that shows so many first items of the log. A way is a tuple
    (deed, number of the pair behind it).
    """
    meeting = Meeting((0, start(scene)), most)
    deeds = scene.deeds()
    ways = []
    while len(ways) < len(meeting.met):
        ways.append(_ways_from(scene, log, deeds, meeting, len(ways)))
    return (meeting, ways)


def _ways_from(scene, log, deeds, meeting, at):
    shown, state = meeting.met[at]
    ways = []
    for deed in deeds:
        after, answer = step(scene, state, deed)
        if answer == UNSEEN or answer == _item(log, shown):
            pair = (shown if answer == UNSEEN else shown + 1, after)
            meeting.meet(pair, at, deed)
            ways.append((deed, meeting.number_of(pair)))
    return ways


def _item(log, at):
    """Return an item of a log, or None behind its end."""
    return log[at] if at < len(log) else None


def _states_with(meeting, number):
    """Return the states that were met with a number of items, in ascending order."""
    return sorted([state for shown, state in meeting.met if shown == number])


def are_sets(scene, log, at, thing):
    """Return whether any value is a list of lists of states that shows that no weaving shows a log up to an item."""
    if not isinstance(thing, list) or len(thing) != at + 1:
        return False
    if not all([_are_different_states(scene, states) for states in thing]):
        return False
    known = [{state: True for state in states} for states in thing]
    if start(scene) not in known[0]:
        return False
    return all([_stays_within(scene, log, known, k, state) for k, states in enumerate(thing) for state in states])


def _are_different_states(scene, thing):
    if not isinstance(thing, list) or not all([is_state(scene, state) for state in thing]):
        return False
    return len(set(thing)) == len(thing)


def _stays_within(scene, log, known, at, state):
    """Return whether the deeds lead from a state of the set at this index only into this set and the next one."""
    for deed in scene.deeds():
        after, answer = step(scene, state, deed)
        if answer == UNSEEN and after not in known[at]:
            return False
        if answer == log[at] and (at + 1 == len(known) or after not in known[at + 1]):
            return False
    return True


def count(scene, log, many, *, most=1000):
    """Return how many weavings of just so many deeds show a log."""
    meeting, ways = _shown(scene, log, most)
    return _counts(meeting, ways, len(log), many)[many][0]


def numbered(scene, log, many, number, *, most=1000):
    """Return the weaving with this number of those of just so many deeds that show a log."""
    meeting, ways = _shown(scene, log, most)
    counts = _counts(meeting, ways, len(log), many)
    if number >= counts[many][0]:
        raise NoWeaving(number)
    weaving = []
    at = 0
    left = number
    for rest in reversed(range(many)):
        way = 0
        while left >= counts[rest][ways[at][way][1]]:
            left -= counts[rest][ways[at][way][1]]
            way += 1
        deed, at = ways[at][way]
        weaving.append(deed)
    return weaving


def _counts(meeting, ways, items, many):
    """Return for each number of deeds, up to many, and for each pair how many weavings from there show all items."""
    counts = [[1 if shown == items else 0 for shown, _ in meeting.met]]
    while len(counts) <= many:
        last = counts[-1]
        counts.append([sum([last[target] for _, target in row]) for row in ways])
    return counts
