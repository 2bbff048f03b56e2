"""Scenes that answer alike, and the least machine of a scene."""

from rowqueue.errors import Unlike
from rowqueue.machine import is_state, start, step
from rowqueue.webs import Meeting, explored


def deeds_of(one, other):
    """Return all deeds of both scenes, in ascending order, each once."""
    _refuse(one, other)
    return sorted(set(one.deeds() + other.deeds()))


def _refuse(one, other):
    if one.workers != other.workers or len(one.rows()) != len(other.rows()):
        raise Unlike()


def compare(one, other, *, most=1000):
    """Return ("alike", pairs) with the pairs of states that are met, or ("parted", weaving, answers)."""
    deeds = deeds_of(one, other)
    meeting = Meeting((start(one), start(other)), most)
    at = 0
    while at < len(meeting.met):
        for deed in deeds:
            pair, answers = _step_both(one, other, meeting.met[at], deed)
            if answers[0] != answers[1]:
                return ("parted", meeting.weaving_to(at) + [deed], answers)
            meeting.meet(pair, at, deed)
        at += 1
    return ("alike", sorted(meeting.met))


def _step_both(one, other, pair, deed):
    """Return the pair of states after a deed, and the pair of its answers."""
    first, answer = step(one, pair[0], deed)
    second, reply = step(other, pair[1], deed)
    return ((first, second), (answer, reply))


def are_pairs(one, other, thing):
    """Return whether any value is a list of pairs of states that shows that two scenes are alike."""
    deeds = deeds_of(one, other)
    if not isinstance(thing, list) or not all([_is_pair(one, other, pair) for pair in thing]):
        return False
    known = {pair: True for pair in thing}
    if len(known) < len(thing) or (start(one), start(other)) not in known:
        return False
    return all([_stays_alike(one, other, known, pair, deeds) for pair in thing])


def _is_pair(one, other, thing):
    return isinstance(thing, tuple) and len(thing) == 2 and is_state(one, thing[0]) and is_state(other, thing[1])


def _stays_alike(one, other, known, pair, deeds):
    """Return whether each deed has equal answers in a pair of states, and leads to a known pair."""
    after = [_step_both(one, other, pair, deed) for deed in deeds]
    return all([both in known and answers[0] == answers[1] for both, answers in after])


def least(scene, deeds, *, most=1000):
    """Return the least machine of a scene for some deeds: for each class its answers and the classes after it."""
    _, moves = explored(scene, deeds, most)
    classes = _classes(moves)
    machine = []
    # The states stand as they are met, so the first one of each class is met in the order of the classes.
    for at, row in enumerate(moves):
        if classes[at] == len(machine):
            machine.append([(answer, classes[target]) for _, answer, target in row])
    return machine


def _classes(moves):
    """Return the class of each state: two are in one class if all lists of deeds have equal answers from them."""
    classes = _numbered([tuple([answer for _, answer, _ in row]) for row in moves])
    many = 0
    while max(classes) + 1 > many:
        many = max(classes) + 1
        behind = [tuple([classes[target] for _, _, target in row]) for row in moves]
        classes = _numbered([(number, behind[at]) for at, number in enumerate(classes)])
    return classes


def _numbered(kinds):
    """Return a number for each kind, equal ones for equal kinds, as they come first."""
    numbers = {}
    found = []
    for kind in kinds:
        if kind not in numbers:
            numbers[kind] = len(numbers)
        found.append(numbers[kind])
    return found
