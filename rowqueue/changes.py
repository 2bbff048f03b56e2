"""The least change of a setting that makes promises hold."""

from itertools import combinations

from rowqueue.coming import can_come, is_trap
from rowqueue.kinds import is_integer
from rowqueue.safety import check, is_breach
from rowqueue.scenes import Scene

WISHES = ("effect", "settled")


def choices(offers):
    """Return all choices of offers, the shorter ones first."""
    words = [offer.partition(" ")[0] for offer in offers]
    found = []
    for many in range(len(offers) + 1):
        for choice in combinations(range(len(offers)), many):
            if len(set([words[at] for at in choice])) == many:
                found.append(list(choice))
    return found


def changed(scene, offers, choice):
    """Return the Scene with the chosen offers in its setting."""
    lines = [offers[at] for at in choice]
    setting = scene.setting.changed(*lines)
    return Scene(setting, scene.rows(), workers=scene.workers, may=scene.may, prompt=scene.prompt)


def least_change(scene, offers, promises, *, most=1000):
    """Return ("choice", choice, papers) with the first choice with which all promises hold, or ("never", papers)."""
    papers = []
    for choice in choices(offers):
        broken = _first_broken(changed(scene, offers, choice), promises, most)
        if broken is None:
            return ("choice", choice, papers)
        promise, answer = broken
        papers.append((choice, promise, answer))
    return ("never", papers)


def _first_broken(scene, promises, most):
    """Return the first promise that does not hold and the answer that tells so, or None."""
    for promise in promises:
        decide = can_come if promise in WISHES else check
        answer = decide(scene, promise, most=most)
        if answer[0] == "breaks":
            return (promise, answer)
    return None


def are_papers(scene, offers, promises, thing):
    """Return whether any value is an answer of least_change, and shows all that it has to show."""
    every = choices(offers)
    many = _many_papers(every, thing)
    if many is None or not isinstance(thing[-1], list) or len(thing[-1]) != many:
        return False
    return all([_is_paper(scene, offers, promises, every[at], paper) for at, paper in enumerate(thing[-1])])


def _many_papers(every, thing):
    """Return how many papers any value must have to be an answer, or None if it is none."""
    if not isinstance(thing, tuple) or len(thing) not in (2, 3):
        return None
    if thing[0] == "never" and len(thing) == 2:
        return len(every)
    if thing[0] != "choice" or len(thing) != 3:
        return None
    same = [_is_choice(choice, thing[1]) for choice in every]
    return same.index(True) if True in same else None


def _is_choice(choice, thing):
    # Without a look at the kinds of its items a truth would pass for a number.
    return isinstance(thing, list) and all([is_integer(at) for at in thing]) and thing == choice


def _is_paper(scene, offers, promises, choice, thing):
    if not isinstance(thing, tuple) or len(thing) != 3 or not _is_choice(choice, thing[0]):
        return False
    _, promise, answer = thing
    if promise not in promises:
        return False
    return _shows(changed(scene, offers, choice), promise, answer)


def _shows(scene, promise, answer):
    """Return whether any value is an answer that shows that a promise does not hold."""
    if not isinstance(answer, tuple) or len(answer) == 0 or answer[0] != "breaks":
        return False
    if promise in WISHES:
        return len(answer) == 3 and is_trap(scene, promise, answer[1], answer[2])
    return len(answer) == 2 and is_breach(scene, promise, answer[1])
