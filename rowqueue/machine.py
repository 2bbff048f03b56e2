"""The machine: the states of a scene, and the deeds that lead from one to another."""

from rowqueue.acts import ACTS, refusal
from rowqueue.bench import IDLE, Bench, free_row
from rowqueue.kinds import is_integer

PLACES = ("yet", "ready", "held", "done", "dead")


def start(scene):
    """Return the first state."""
    places = ["ready" if row[2] == "here" else "yet" for row in scene.rows()]
    return (tuple([(place, 0, 0, 0, 0) for place in places]), (IDLE,) * scene.workers)


def step(scene, state, deed):
    """Return the state after a deed, and its answer."""
    bench = Bench(scene, state)
    act = ACTS[deed[0]]
    answer = act(bench, deed)
    return (bench.result(), answer)


def moments(scene, weaving):
    """Go through the tuples (state, answer) after each deed of a weaving."""
    state = start(scene)
    # The caller may change its list while it goes through the moments.
    for deed in list(weaving):
        state, answer = step(scene, state, deed)
        yield (state, answer)


def play(scene, weaving):
    """Return the last state of a weaving, and the list of all its answers."""
    state = start(scene)
    answers = []
    for state, answer in moments(scene, weaving):
        answers.append(answer)
    return (state, answers)


def chosen(scene, state):
    """Return the row that an idle worker would take, or None."""
    return free_row(scene, state[0])


def able(scene, state, w):
    """Return whether a worker that goes on at once comes to its effect."""
    rules = scene.rules
    hand = state[1][w]
    if hand == IDLE:
        return False
    point = hand[0]
    # No word on the way but check and finish changes what these two look at, and both come once.
    refused = [refusal(rules, hand, at) is not None for at in range(point, rules.effect_at + 1)]
    return point <= rules.effect_at and not any(refused)


def is_weaving(scene, thing):
    """Return whether any value is a list of deeds of the scene."""
    if not isinstance(thing, list):
        return False
    deeds = scene.deeds()
    return all([_has_form(item) and item in deeds for item in thing])


def _has_form(thing):
    """Return whether any value is like a deed; without this a truth would pass for a number."""
    if not isinstance(thing, tuple) or not 1 <= len(thing) <= 2:
        return False
    return isinstance(thing[0], str) and all([is_integer(part) for part in thing[1:]])


def is_state(scene, thing):
    """Return whether any value is a state of the scene."""
    if not _is_tuple(thing, 2) or not _is_tuple(thing[0], len(scene.rows())):
        return False
    rows, hands = thing
    if not all([_is_row(scene.rules, row) for row in rows]):
        return False
    if not _is_tuple(hands, scene.workers) or not all([_is_hand(scene.rules, rows, hand) for hand in hands]):
        return False
    sure = [hand[1] for hand in hands if hand != IDLE and hand[2]]
    return all([rows[r][0] == "held" and sure.count(r) == 1 for r in sure])


def _is_tuple(thing, many):
    return isinstance(thing, tuple) and len(thing) == many


def _is_row(rules, thing):
    if not _is_tuple(thing, 5):
        return False
    place, ticks, tries, effects, memory = thing
    if not isinstance(place, str) or place not in PLACES:
        return False
    least, most = _ticks_of(rules, place)
    bounds = ((ticks, least, most), (tries, 0, rules.kept_tries), (effects, 0, 2), (memory, 0, rules.recall))
    return all([is_integer(number) and low <= number <= high for number, low, high in bounds])


def _ticks_of(rules, place):
    """Return the least and the greatest ticks that a row may have at a place."""
    if place == "ready":
        return (0, rules.pauses[-1])
    if place == "held" and rules.term > 0:
        return (1, rules.term)
    return (0, 0)


def _is_hand(rules, rows, thing):
    if not _is_tuple(thing, 5):
        return _is_tuple(thing, 0)
    point, r, fresh, own, lag = thing
    if not all([is_integer(number) for number in (point, r, own, lag)]) or not isinstance(fresh, bool):
        return False
    if not 1 <= point < len(rules.stages) or not 0 <= r < len(rows):
        return False
    return _is_clock(rules, point, own, lag)


def _is_clock(rules, point, own, lag):
    if not rules.checks_from(point):
        return own == 0 and lag == 0
    if own < 0 or not 0 <= lag <= rules.slack or (own == 0 and lag > 0):
        return False
    return own + lag <= rules.slack + rules.trust
