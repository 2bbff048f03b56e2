"""Answers for scenes of one row that come from the lines of the setting alone, without a search."""

from rowqueue.errors import NoForm

ACCIDENTS_BEHIND_A_FENCE = ("fail", "give", "more")


def shortest(scene, promise):
    """Return the number of deeds of a shortest breach, or None if the promise holds."""
    weaving = breach(scene, promise)
    return None if weaving is None else len(weaving)


def breach(scene, promise):
    """Return a shortest breach, or None if the promise holds."""
    _refuse(scene)
    find = BREACHES[promise]
    weavings = find(scene)
    return min(weavings, key=len) if weavings else None


def takes(scene):
    """Return the greatest number of takes of the row, or None if there is none."""
    _refuse(scene)
    rules, may = scene.rules, scene.may
    by_link = rules.linked and "crash" in may
    falls_alone = rules.term > 0 or by_link
    if "give" in may:
        return None
    if not falls_alone and "fail" not in may:
        return 1
    if _all_stay_busy(scene):
        return min(scene.workers, rules.most_tries) if rules.by_take and rules.most_tries > 0 else scene.workers
    if rules.most_tries == 0 or (falls_alone and not rules.by_take):
        return None
    return rules.most_tries


def _all_stay_busy(scene):
    """Return whether a worker can become idle only behind a finish, and the row falls back all the same."""
    rules = scene.rules
    if rules.fenced or rules.term == 0 or "crash" in scene.may:
        return False
    return rules.check_at is None or rules.check_at > rules.finish_at


def _refuse(scene):
    rows = scene.rows()
    if len(rows) != 1 or rows[0][2] != "here" or scene.workers < 2 or scene.prompt:
        raise NoForm()
    if not scene.rules.fenced and any([word in scene.may for word in ACCIDENTS_BEHIND_A_FENCE]):
        raise NoForm()


def _parts(w, many):
    return [("part", w)] * many


def _ticks(many):
    return [("tick",)] * many


def _slows(w, many):
    return [("slow", w)] * many


def _comes_again(rules):
    """Return whether the hold of the row can end, so that it is free again."""
    return rules.term > 0 and (rules.most_tries != 1 or not rules.by_take)


def _checks_up_to(rules, at):
    return rules.check_at is not None and rules.check_at <= at


def _is_always_late(rules, at):
    """Return whether each check is late, and comes up to this transaction."""
    return rules.term > 0 and rules.trust == 0 and _checks_up_to(rules, at)


def _twice(scene):
    rules = scene.rules
    if rules.forever or _is_always_late(rules, rules.effect_at):
        return []
    if rules.finish_at > rules.effect_at:
        return _twice_ahead_of_finish(scene)
    if rules.fenced or not _comes_again(rules):
        return []
    return _twice_behind_finish(scene)


def _twice_ahead_of_finish(scene):
    """Return weavings in which the row comes again behind its first effect."""
    rules, may = scene.rules, scene.may
    pause, memory = rules.pauses[0], rules.recall
    first, again = _parts(0, rules.effect_at + 1), _parts(1, rules.effect_at + 1)
    found = []
    if "give" in may:
        found.append(first + [("give", 0)] + _ticks(memory) + again)
    if "fail" in may and rules.most_tries != 1:
        found.append(first + [("fail", 0)] + _ticks(max(pause, memory)) + again)
    if rules.linked and "crash" in may and (rules.most_tries != 1 or not rules.by_take):
        found.append(first + [("crash", 0)] + _ticks(max(pause, memory)) + again)
    if _comes_again(rules):
        found.append(first + _ticks(max(rules.term + pause, memory)) + again)
    return found


def _twice_behind_finish(scene):
    """Return weavings in which both workers have the row before one of them finishes it."""
    rules = scene.rules
    effect, check, memory = rules.effect_at, rules.check_at, rules.recall
    first = second = 0
    slow_first = slow_second = 0
    if _checks_up_to(rules, rules.finish_at - 1):
        first = second = check
    elif _checks_up_to(rules, effect):
        slow_first = _lag_to_outlast(scene)
        # The second one can do its check ahead of the wait for the memory, if its effect is later.
        second = check if check < effect else 0
        slow_second = max(memory + 1 - rules.trust, 0) if check == effect else 0
    if max(slow_first, slow_second) > rules.slack:
        return []
    weaving = _parts(0, 1 + first) + _slows(0, slow_first) + _ticks(rules.term + rules.pauses[0])
    weaving = weaving + _parts(1, 1 + second) + _slows(1, slow_second) + _parts(0, effect - first)
    return [weaving + _ticks(memory) + _parts(1, effect - second)]


def _lag_to_outlast(scene):
    """Return by how much a clock must fall behind, so that a check is not late when the row is free again."""
    return scene.setting.margin + scene.rules.pauses[0] + 1


def _two(scene):
    rules = scene.rules
    effect, finish, check = rules.effect_at, rules.finish_at, rules.check_at
    if not _comes_again(rules) or (finish <= effect and rules.fenced) or _is_always_late(rules, effect):
        return []
    wait = _ticks(rules.term + rules.pauses[0]) + _parts(1, 1)
    if not _checks_up_to(rules, effect):
        return [_parts(0, 1) + wait]
    found = []
    lag = _lag_to_outlast(scene)
    if lag <= rules.slack:
        found.append(_parts(0, 1) + _slows(0, lag) + wait)
    if check < min(effect, finish):
        found.append(_parts(0, 1 + check) + wait)
    return found


def _order(scene):
    return []


def _gone(scene):
    rules = scene.rules
    finish = rules.finish_at
    if finish >= rules.effect_at or _is_always_late(rules, finish):
        return []
    found = []
    if "crash" in scene.may:
        found.append(_parts(0, finish + 1) + [("crash", 0)])
    if rules.term > 0 and not _checks_up_to(rules, finish) and _checks_up_to(rules, rules.effect_at):
        found.append(_parts(0, finish + 1) + _ticks(rules.trust))
    return found


BREACHES = {"twice": _twice, "two": _two, "order": _order, "gone": _gone}
