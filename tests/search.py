"""A search over the second machine, and what the document asks of its states, to compare the package with.

It shares nothing with the package but the list of the deeds of a scene.
"""

import collections
import functools
import random

from rowqueue.scenes import Scene
from rowqueue.settings import Setting
from tests.oracle import Oracle
from tests.samples import rows_by_lot, scene_by_lot

QUIET = ("part", "put", "slow", "tick")


class Large(Exception):
    """More states are reached than a test has time for."""


class Search:
    """All reached states, each with the least of the shortest weavings to it, in the order of meeting.

    There may be more states besides, reached or not, from which it goes on as well.
    """

    def __init__(self, oracle, deeds, limit=400, more=()):
        self.oracle, self.deeds = oracle, deeds
        self.weavings = {oracle.start(): []} | {state: [] for state in more}
        self.moves = {}
        waiting = collections.deque(self.weavings)
        while waiting:
            state = waiting.popleft()
            self.moves[state] = []
            for deed in deeds:
                after, answer = oracle.step(state, deed)
                self.moves[state].append((deed, answer, after))
                if after not in self.weavings:
                    if len(self.weavings) == limit:
                        raise Large()
                    self.weavings[after] = self.weavings[state] + [deed]
                    waiting.append(after)

    def states(self):
        """The states in the order of meeting."""
        return list(self.weavings)

    def end_of(self, weaving):
        state = self.oracle.start()
        for deed in weaving:
            state = self.oracle.step(state, deed)[0]
        return state

    def quiet_from(self, state):
        return [after for deed, _, after in self.moves[state] if deed[0] in QUIET]


@functools.cache
def small_scenes(seed, many, limit=250, most=2, prompts=0.3):
    """Tuples of a scene with few reached states and its search, drawn by lot."""
    chance = random.Random(seed)
    found = []
    while len(found) < many:
        scene, oracle = scene_by_lot(chance, most, prompts)
        try:
            found.append((scene, Search(oracle, scene.deeds(), limit)))
        except Large:
            continue
    return found


@functools.cache
def gap_scenes(seed, many, limit=150):
    """Scenes in which a row often has a later try behind its first effect, and only so many ones."""
    chance = random.Random(seed)
    found = []
    while len(found) < many:
        lines = [f"hold {chance.randint(1, 3)}", f"tries {chance.randint(2, 3)}"]
        for word, values in [("pause", "0012"), ("once", ["no", "no", "1", "3", "ever"]), ("order", ["oldest", "key"])]:
            lines.append(f"{word} {chance.choice(values)}")
        plans = ["effect finish", "check effect finish", "effect follow finish", "effect check finish"]
        lines.append(f"plan take {chance.choice(plans)}")
        may = tuple(word for word in ("crash", "fail") if chance.random() < 0.4)
        rows, workers = rows_by_lot(chance, 2), chance.choice([1, 1, 2])
        scene = Scene(Setting(lines), rows, workers=workers, may=may, prompt=True)
        try:
            found.append((scene, Search(Oracle(lines, rows, workers, may, True), scene.deeds(), limit)))
        except Large:
            continue
    return found


def is_bad(oracle, promise, state):
    """[60], for one state."""
    rows, hands = state
    on_rows = [hand[1] if hand and oracle.able(state, w) else None for w, hand in enumerate(hands)]
    able = [on_rows.count(r) for r in range(len(rows))]
    if promise == "twice":
        return max(row[3] for row in rows) >= 2
    if promise == "two":
        return max(able) >= 2
    if promise == "gone":
        return any(row[0] == "done" and row[3] == 0 and able[r] == 0 for r, row in enumerate(rows))
    keys = [row[0] for row in oracle.scene_rows]
    for late in range(len(rows)):
        for early in range(late):
            waits = keys[early] == keys[late] and rows[early][3] == 0 and rows[early][0] in ("ready", "held", "done")
            if waits and rows[late][3] > 0:
                return True
    return False


def meets(wish, state):
    """[70], for one state."""
    for place, _, _, effects, _ in state[0]:
        if place == "yet":
            continue
        if wish == "effect" and effects == 0:
            return False
        if wish == "settled" and place not in ("done", "dead"):
            return False
    return True


def variants(thing):
    """Copies of a value, each with one thing changed, at any depth."""
    if isinstance(thing, (list, tuple)):
        kind = type(thing)
        items = list(thing)
        yield tuple(items) if kind is list else list(items)
        for at, item in enumerate(items):
            yield kind(items[:at] + items[at + 1 :])
            yield kind(items[:at] + [item] + items[at:])
            for other in variants(item):
                yield kind(items[:at] + [other] + items[at + 1 :])
        for at in range(len(items) - 1):
            if repr(items[at]) != repr(items[at + 1]):
                yield kind(items[:at] + [items[at + 1], items[at]] + items[at + 2 :])
        yield kind(items + [None])
    elif isinstance(thing, bool):
        yield from [not thing, int(thing), None]
    elif isinstance(thing, int):
        yield from [thing + 1, thing - 1, None, str(thing), -(10**40)]
        if thing in (0, 1):
            yield bool(thing)
    elif isinstance(thing, str):
        yield from [thing + "x", "", None, thing.encode()]
    elif thing is None:
        yield from [0, False, ""]
