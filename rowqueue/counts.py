"""What a count counts: where it begins, which moves may follow, what they count, and where it may end."""

from rowqueue.acts import is_held_up
from rowqueue.bench import Bench, is_free
from rowqueue.machine import start

# The words of the counts that go on only as long as the row is free.
FREE_WORDS = ("passed", "waits")


class Count:
    """A count of a scene."""

    def __init__(self, scene, count):
        self._scene = scene
        self._word, self._r = count

    def is_of_free_rows(self):
        return self._word in FREE_WORDS

    def goes_on_in(self, state):
        """Return whether moves that may follow lead from and to this state."""
        if self._word == "takes":
            return True
        if self._word == "gap":
            return state[0][self._r][3] > 0
        return is_free(self._scene, state[0], self._r)

    def begins_in(self, state):
        """Return whether counting begins in a reached state, whatever led to it."""
        if self._word == "takes":
            return state == start(self._scene)
        return self.is_of_free_rows() and self.goes_on_in(state)

    def begins_behind(self, state, after):
        """Return whether counting begins behind a move between these states."""
        return self._word == "gap" and not self.goes_on_in(state) and self.goes_on_in(after)

    def begins_at(self, states, at):
        """Return whether counting may begin at an index of the states of a weaving."""
        if self._word == "takes":
            return at == 0
        if self._word == "gap":
            return at > 0 and self.begins_behind(states[at - 1], states[at])
        return self.goes_on_in(states[at])

    def begin_of(self, states):
        """Return an index of these states of a weaving at which counting may begin that leads to the last one."""
        if self.is_of_free_rows():
            return len(states) - 1
        return [self.goes_on_in(state) for state in states].index(True)

    def ends_in(self, state):
        """Return whether counting may end in a state to which it leads."""
        return self._word != "gap" and self.goes_on_in(state)

    def ends_by(self, state, answer):
        """Return whether counting may end with a move from this state that has this answer."""
        if self._word != "gap" or not self.goes_on_in(state):
            return False
        return f"effect {self._r}" in answer or f"again {self._r}" in answer

    def worth(self, state, deed, answer):
        """Return what a move that may follow counts: 1 or 0."""
        return 1 if self._counts(state, deed, answer) else 0

    def _counts(self, state, deed, answer):
        own = f"take {self._r}"
        if self._word == "takes":
            return own in answer
        if self._word == "passed":
            return any([text.startswith("take ") and text != own for text in answer])
        return deed == ("tick",) and not is_held_up(Bench(self._scene, state))
