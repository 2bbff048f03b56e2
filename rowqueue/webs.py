"""What is met from a first state, in the order of its meeting, and the ways through it."""

from rowqueue.errors import TooMany
from rowqueue.machine import start, step


class Meeting:
    """States, or pairs of them, as they are met, each with the deed that led to it then."""

    def __init__(self, first, most):
        self.met = [first]
        self._most = most
        self._numbers = {first: 0}
        self._ways = [None]

    def number_of(self, thing):
        """Return the number of what was met."""
        return self._numbers[thing]

    def meet(self, thing, before, deed):
        """Meet what a deed leads to from the one with the number before; return whether it is new."""
        if thing in self._numbers:
            return False
        if len(self.met) == self._most:
            raise TooMany(self._most)
        self._numbers[thing] = len(self.met)
        self.met.append(thing)
        self._ways.append((before, deed))
        return True

    def weaving_to(self, at):
        """Return the least of the shortest weavings to what was met with this number."""
        weaving = []
        way = self._ways[at]
        while way is not None:
            before, deed = way
            weaving.append(deed)
            way = self._ways[before]
        return weaving[::-1]


def explored(scene, deeds, most):
    """Return the meeting of all states that the deeds lead to, and the list of the moves from each of them.

    A move is a tuple (deed, answer, number of the state after it).
    """
    meeting = Meeting(start(scene), most)
    moves = []
    while len(moves) < len(meeting.met):
        at = len(moves)
        moves.append([_move(scene, meeting, at, deed) for deed in deeds])
    return (meeting, moves)


def _move(scene, meeting, at, deed):
    state, answer = step(scene, meeting.met[at], deed)
    meeting.meet(state, at, deed)
    return (deed, answer, meeting.number_of(state))


def searched(first, deeds, after, is_bad, most):
    """Return ("holds", states) with all states that deeds lead to from a first one, or ("breaks", weaving).

    after(state, deed) is the state after a deed, and is_bad(state) whether a state ends the search.
    """
    meeting = Meeting(first, most)
    if is_bad(first):
        return ("breaks", [])
    at = 0
    while at < len(meeting.met):
        for deed in deeds:
            state = after(meeting.met[at], deed)
            if meeting.meet(state, at, deed) and is_bad(state):
                return ("breaks", meeting.weaving_to(len(meeting.met) - 1))
        at += 1
    return ("holds", sorted(meeting.met))


def are_closed(scene, states, deeds):
    """Return whether the deeds lead from each of these states to one of them."""
    known = {state: True for state in states}
    return all([_leads_into(scene, known, state, deeds) for state in states])


def _leads_into(scene, known, state, deeds):
    return all([step(scene, state, deed)[0] in known for deed in deeds])
