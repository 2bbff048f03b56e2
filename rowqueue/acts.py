"""What each deed does on a bench. Each act returns its answer."""

from rowqueue.bench import IDLE, free_row

NONE = ("none",)
STALE = ("stale",)
NOTHING = ("nothing",)


def refusal(rules, hand, point):
    """Return the word that refuses a transaction to a worker that does it now, or None."""
    for word in rules.stages[point]:
        if word == "check" and rules.term > 0 and hand[3] == 0:
            return "late"
        if word == "finish" and rules.fenced and not hand[2]:
            return "stale"
    return None


def do_part(bench, deed):
    w = deed[1]
    if bench.crew[w] == IDLE:
        return _take(bench, w)
    return _go_on(bench, w)


def _take(bench, w):
    r = free_row(bench.scene, bench.table)
    if r is None:
        return NOTHING
    take_row(bench, w, r)
    return (f"take {r}",)


def take_row(bench, w, r):
    """Let a worker hold a row, wherever the row is."""
    bench.take_away(r, "held", bench.rules.term)
    if bench.rules.by_take:
        bench.count_try(r)
    own, lag = bench.rules.clock()
    bench.crew[w] = (1, r, True, own, lag)


def _go_on(bench, w):
    """Do the next transaction of a worker, all of it or nothing."""
    rules = bench.rules
    point, r, _, _, _ = bench.crew[w]
    refused = refusal(rules, bench.crew[w], point)
    if refused is not None:
        bench.dismiss(w)
        return (refused,)
    answer = []
    for word in rules.stages[point]:
        act = WORDS[word]
        answer.extend(act(bench, r))
    _, _, fresh, own, lag = bench.crew[w]
    if not rules.checks_from(point + 1):
        own = lag = 0
    last = point + 1 == len(rules.stages)
    bench.crew[w] = IDLE if last else (point + 1, r, fresh, own, lag)
    return tuple(answer)


def _check(bench, r):
    # That a check is late has been found before anything of its transaction was done.
    return ()


def _effect(bench, r):
    place, ticks, tries, effects, memory = bench.table[r]
    if memory > 0 or (bench.rules.forever and effects > 0):
        return (f"again {r}",)
    bench.table[r] = (place, ticks, tries, min(effects + 1, 2), bench.rules.recall)
    return (f"effect {r}",)


def _finish(bench, r):
    bench.take_away(r, "done", 0)
    return (f"finish {r}",)


def _follow(bench, r):
    rows = bench.scene.rows()
    coming = [s for s, row in enumerate(rows) if row[2] == r and bench.table[s][0] == "yet"]
    for s in coming:
        bench.take_away(s, "ready", 0)
    return tuple([f"follow {s}" for s in coming]) if coming else ("follow",)


def do_fail(bench, deed):
    refused = _refuse_accident(bench, deed)
    if refused is not None:
        return refused
    r = bench.release(deed[1])
    if not bench.is_held(r):
        return (f"fail {r}",)
    if not bench.rules.by_take:
        bench.count_try(r)
    return (f"fail {r}",) + bench.fall_back(r)


def do_give(bench, deed):
    refused = _refuse_accident(bench, deed)
    if refused is not None:
        return refused
    r = bench.release(deed[1])
    if bench.is_held(r):
        bench.take_away(r, "ready", 0)
    return (f"give {r}",)


def do_more(bench, deed):
    w = deed[1]
    rules = bench.rules
    refused = NONE if rules.term == 0 else _refuse_accident(bench, deed)
    if refused is not None:
        return refused
    point, r, _, _, _ = bench.crew[w]
    if not bench.is_held(r):
        bench.dismiss(w)
        return STALE
    bench.move(r, "held", rules.term)
    if rules.checks_from(point):
        own, lag = rules.clock()
        bench.set_clock(w, own, lag)
    return (f"more {r}",)


def _refuse_accident(bench, deed):
    """Return the answer that refuses fail, give or more, or None. A stale worker becomes idle."""
    word, w = deed
    hand = bench.crew[w]
    if word not in bench.scene.may or hand == IDLE or hand[0] > bench.rules.finish_at:
        return NONE
    if bench.rules.fenced and not hand[2]:
        bench.dismiss(w)
        return STALE
    return None


def do_slow(bench, deed):
    w = deed[1]
    hand = bench.crew[w]
    if hand != IDLE and hand[3] > 0 and hand[4] > 0:
        bench.set_clock(w, hand[3] + 1, hand[4] - 1)
    return ()


def do_crash(bench, deed):
    w = deed[1]
    hand = bench.crew[w]
    if "crash" not in bench.scene.may or hand == IDLE:
        return ()
    bench.dismiss(w)
    if bench.rules.linked and hand[2]:
        return bench.fall_back(hand[1])
    return ()


def do_put(bench, deed):
    r = deed[1]
    if bench.scene.rows()[r][2] != "late" or bench.table[r][0] != "yet":
        return NONE
    bench.take_away(r, "ready", 0)
    return (f"put {r}",)


def do_tick(bench, deed):
    if is_held_up(bench):
        return ()
    answer = []
    for r in range(len(bench.table)):
        answer.extend(_pass_row(bench, r))
    for r, row in enumerate(list(bench.table)):
        place, ticks, tries, effects, memory = row
        bench.table[r] = (place, ticks, tries, effects, max(memory - 1, 0))
    for w, hand in enumerate(list(bench.crew)):
        if hand != IDLE:
            own = max(hand[3] - 1, 0)
            bench.set_clock(w, own, hand[4] if own > 0 else 0)
    return tuple(answer)


def is_held_up(bench):
    """Return whether a tick is held up: a prompt scene has something to do before time may go on."""
    if not bench.scene.prompt:
        return False
    if any([hand != IDLE and not hand[2] for hand in bench.crew]):
        return True
    return IDLE in bench.crew and free_row(bench.scene, bench.table) is not None


def _pass_row(bench, r):
    """Let a tick pass for a row, and return the strings that tell of its death."""
    place, ticks = bench.table[r][:2]
    if place == "ready" and ticks > 0:
        bench.move(r, "ready", ticks - 1)
    if place != "held" or bench.rules.term == 0:
        return ()
    if ticks == 1:
        return bench.fall_back(r)
    bench.move(r, "held", ticks - 1)
    return ()


WORDS = {"check": _check, "effect": _effect, "finish": _finish, "follow": _follow}
ACTS = {
    "crash": do_crash,
    "fail": do_fail,
    "give": do_give,
    "more": do_more,
    "part": do_part,
    "put": do_put,
    "slow": do_slow,
    "tick": do_tick,
}
