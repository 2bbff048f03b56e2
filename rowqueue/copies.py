"""Workers that take a row in two deeds: they look at it, perhaps on an old copy of the table, and then mark it."""

from rowqueue.acts import ACTS, NONE, NOTHING, STALE, take_row
from rowqueue.bench import IDLE, Bench, words_of
from rowqueue.choice import chosen
from rowqueue.machine import start
from rowqueue.safety import is_bad
from rowqueue.webs import searched

COPY = ("copy",)

# The point of a worker that has looked at a row: its take is still to come.
LOOKED = 0


class Reading:
    """A machine with the setting and the rows of a scene. It never changes."""

    def __init__(self, scene, late):
        self.scene = scene
        self._late = late

    def first(self):
        """Return the first state."""
        rows, hands = start(self.scene)
        return (rows, hands, self._copied(rows))

    def deeds(self):
        """Return the deeds, in ascending order."""
        return sorted(self.scene.deeds() + [COPY]) if self._late else self.scene.deeds()

    def step(self, state, deed):
        """Return the state after a deed, and its answer."""
        rows, hands, copy = state
        if deed == COPY:
            return ((rows, hands, self._copied(rows)), () if self._late else NONE)
        bench = Bench(self.scene, state)
        if deed[0] == "part" and bench.crew[deed[1]] == IDLE:
            answer = self._look(bench, deed[1], copy)
        else:
            answer = _do(bench, deed)
        rows, hands = bench.result()
        return ((rows, hands, _later(copy, rows)), answer)

    def _copied(self, rows):
        """Return a new copy of the table, if there are copies."""
        return tuple(words_of(rows)) if self._late else ()

    def _look(self, bench, w, copy):
        words = copy if self._late else words_of(bench.table)
        view = ["free" if word == "was" else word for word in words]
        r = chosen(self.scene.rows(), self.scene.setting, view)
        if r is None:
            return NOTHING
        bench.crew[w] = (LOOKED, r, words[r] != "was", 0, 0)
        return (f"look {r}",)


def _later(copy, rows):
    """Return the copy behind a deed that led to these rows."""
    words = words_of(rows)
    return tuple(["was" if word == "free" and words[r] != "free" else word for r, word in enumerate(copy)])


def _has_looked(hand):
    return hand != IDLE and hand[0] == LOOKED


def _do(bench, deed):
    """Do a deed that is no look, and return its answer."""
    word = deed[0]
    if word in ACTS_BEHIND_A_LOOK and _has_looked(bench.crew[deed[1]]):
        act = ACTS_BEHIND_A_LOOK[word]
    else:
        act = ACTS[word]
    return act(bench, deed)


def _mark(bench, deed):
    w = deed[1]
    _, r, fresh, _, _ = bench.crew[w]
    if bench.rules.fenced and not fresh:
        bench.dismiss(w)
        return STALE
    take_row(bench, w, r)
    return (f"mark {r}",)


def _crash(bench, deed):
    if "crash" in bench.scene.may:
        bench.dismiss(deed[1])
    return ()


def _refuse(bench, deed):
    return NONE


ACTS_BEHIND_A_LOOK = {"crash": _crash, "fail": _refuse, "give": _refuse, "more": _refuse, "part": _mark}


def check(reading, promise, *, most=1000):
    """Return ("holds", states) with all reached states, or ("breaks", weaving)."""
    return searched(
        reading.first(),
        reading.deeds(),
        lambda state, deed: reading.step(state, deed)[0],
        lambda state: _is_bad(reading, promise, state),
        most,
    )


def _is_bad(reading, promise, state):
    """Return whether a state is bad for a promise; a worker that has looked is not able, as an idle one is not."""
    rows, hands, _ = state
    crew = [IDLE if _has_looked(hand) else hand for hand in hands]
    return is_bad(reading.scene, promise, (rows, tuple(crew)))
