"""Chains: how many effects rows have in the end, and what comes of it if each effect puts a row into a next queue."""

from rowqueue.bench import IDLE
from rowqueue.errors import Wrong
from rowqueue.kinds import is_integer
from rowqueue.webs import explored

# Two effects stand for all numbers above.
MANY = 2
CLOSED_PLACES = ("done", "dead")


def ends(scene, rows, *, most=1000):
    """Return the tuples (number, weaving) of the numbers of effects that some rows may have in the end."""
    meeting, _ = explored(scene, scene.deeds(), most)
    found = {}
    for at, state in enumerate(meeting.met):
        if _is_quiet(state, rows):
            number = min(sum([state[0][r][3] for r in rows]), MANY)
            # The first one that is met has the least of the shortest weavings.
            found.setdefault(number, at)
    return [(number, meeting.weaving_to(found[number])) for number in sorted(found)]


def _is_quiet(state, rows):
    """Return whether nothing more comes of some rows."""
    closed = [state[0][r][0] in CLOSED_PLACES for r in rows]
    busy = [hand != IDLE and hand[1] in rows for hand in state[1]]
    return all(closed) and not any(busy)


class Ends:
    """A set of numbers of effects, cut at two. It never changes."""

    def __init__(self, numbers):
        if not _are_numbers(numbers):
            raise Wrong(0)
        self._numbers = tuple(numbers)

    def __eq__(self, other):
        return isinstance(other, Ends) and self._numbers == other._numbers

    def __contains__(self, thing):
        return is_integer(thing) and thing in self._numbers

    def __mul__(self, other):
        sums = [number for k in self._numbers for number in _sums(other._numbers, k)]
        return Ends(sorted(set(sums)))

    def __repr__(self):
        return f"Ends({list(self._numbers)!r})"

    def numbers(self):
        """Return the numbers."""
        return list(self._numbers)

    def repeated(self, k):
        """Return the product of so many of these Ends."""
        # Each of the eight sets is its own square, so it is the product of any number of itself.
        return Ends([1]) if k == 0 else self

    def kept(self):
        """Return the Ends with 1 in the place of 2: those of a receiver that remembers for ever."""
        return Ends(sorted(set([min(number, 1) for number in self._numbers])))


def _are_numbers(thing):
    if not isinstance(thing, list) or not all([is_integer(number) and 0 <= number <= MANY for number in thing]):
        return False
    return thing == sorted(set(thing))


def _sums(numbers, k):
    """Return the sums, cut at 2, of k of these numbers; for 2 of two or more."""
    if k == 0:
        return [0]
    if k == 1:
        return list(numbers)
    # More than two of them have no sum that two of them do not have as well.
    return [min(one + other, MANY) for one in numbers for other in numbers]
