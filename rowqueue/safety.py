"""Promises that no reached state may break: twice, two, order and gone."""

from rowqueue.machine import able, is_state, is_weaving, play, start, step
from rowqueue.webs import are_closed, explored, searched

LONGEST_BREACH = 4000


def is_bad(scene, promise, state):
    """Return whether a state is bad for a promise."""
    is_bad_row = BAD_ROWS[promise]
    return any([is_bad_row(scene, state, r) for r in range(len(state[0]))])


def _is_twice(scene, state, r):
    return state[0][r][3] >= 2


def _is_two(scene, state, r):
    return _able_ones(scene, state, r) >= 2


def _is_before_its_turn(scene, state, r):
    """Return whether a row has an effect ahead of an earlier row of its key."""
    rows = scene.rows()
    if state[0][r][3] == 0:
        return False
    earlier = [state[0][s] for s in range(r) if rows[s][0] == rows[r][0]]
    return any([row[3] == 0 and row[0] not in ("yet", "dead") for row in earlier])


def _is_gone(scene, state, r):
    place, _, _, effects, _ = state[0][r]
    return place == "done" and effects == 0 and _able_ones(scene, state, r) == 0


def _able_ones(scene, state, r):
    """Return how many workers are able on a row."""
    crew = [w for w, hand in enumerate(state[1]) if len(hand) > 0 and hand[1] == r]
    return len([w for w in crew if able(scene, state, w)])


BAD_ROWS = {"twice": _is_twice, "two": _is_two, "order": _is_before_its_turn, "gone": _is_gone}


def reached(scene, *, most=1000):
    """Return all reached states, in ascending order."""
    meeting, _ = explored(scene, scene.deeds(), most)
    return sorted(meeting.met)


def check(scene, promise, *, most=1000):
    """Return ("holds", states) with all reached states, or ("breaks", weaving)."""
    return searched(
        start(scene),
        scene.deeds(),
        lambda state, deed: step(scene, state, deed)[0],
        lambda state: is_bad(scene, promise, state),
        most,
    )


def is_closed(scene, promise, thing):
    """Return whether any value is an ascending list of states that shows that a promise holds."""
    if not isinstance(thing, list) or not all([is_state(scene, state) for state in thing]):
        return False
    if not all([thing[at] < thing[at + 1] for at in range(len(thing) - 1)]):
        return False
    if start(scene) not in thing or any([is_bad(scene, promise, state) for state in thing]):
        return False
    return are_closed(scene, thing, scene.deeds())


def is_breach(scene, promise, thing):
    """Return whether any value is a weaving of not too many deeds to a bad state."""
    if not is_weaving(scene, thing) or len(thing) > LONGEST_BREACH:
        return False
    state, _ = play(scene, thing)
    return is_bad(scene, promise, state)
